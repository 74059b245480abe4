"""Why programs were told what they were told."""

MOST_STEPS = 1000


class Causes:
    """The last steps of a server, and what each slot was told by them."""

    def __init__(self, slots):
        # How many steps there were so far, and the word of the last one.
        self._steps = 0
        self._word = ""
        # Of each slot a row (step, word, request) for each message that it was told.
        self._rows = [[] for _ in range(slots)]

    def begin(self, word):
        """Begin a step, in which messages are told for a reason."""
        self._steps += 1
        self._word = word
        oldest = self._oldest()
        for rows in self._rows:
            count = 0
            while count < len(rows) and rows[count][0] < oldest:
                count += 1
            del rows[:count]

    def note(self, slot, request):
        """Note a message that a slot is told, by a request (the list of an object and an opcode) or by none (None)."""
        rows = self._rows[slot]
        rows.append((self._steps - 1, self._word, request))

    def cause(self, slot, number):
        """Return the cause (step, word, request) of a message, or None if there is no such message."""
        rows = self._rows[slot]
        if not 0 <= number < len(rows):
            return None
        step, word, request = rows[number]
        return step - self._oldest(), word, None if request is None else list(request)

    def _oldest(self):
        """Return the number, from the very first step, of the oldest one that is kept."""
        return max(self._steps - MOST_STEPS, 0)
