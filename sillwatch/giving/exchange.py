"""What is given, dragged, sent and asked for by all programs, and what of it comes to whom."""

from sillwatch.policies.flows import lets

# Any content does for a kind of flow whose rules name none.
_CONTENT = "x"


class Asked:
    """A capture that waits for the answer of a user."""

    def __init__(self, number, slot, capture, output, x, y, width, height):
        self.number = number
        self.slot = slot
        self.capture = capture
        self.output = output
        self.x = x
        self.y = y
        self.width = width
        self.height = height


class Exchange:
    """What all programs give (lists of tuples (slot, goods), the newest first), send and ask for."""

    def __init__(self):
        self.gifts = []
        self.primary = []
        self.drags = []
        self.sent = []
        self.asked = []
        self.count = 0
        self.hovered = None

    def give(self, slot, goods, primary):
        """Let goods be what a slot gave last, in one of the two selections."""
        given = [(slot, _copied(goods))] + _of_others(self.primary if primary else self.gifts, slot)
        if primary:
            self.primary = given
        else:
            self.gifts = given

    def drag(self, slot, goods):
        """Begin a drag."""
        self.drags = [(slot, _copied(goods))] + self.drags

    def send(self, slot, name, octets):
        """Let octets be had under a name, in place of former ones."""
        self.unsend(slot, name)
        self.sent = self.sent + [(slot, name, list(octets))]

    def unsend(self, slot, name):
        """Let nothing be had under a name any more."""
        self.sent = [row for row in self.sent if row[:2] != (slot, name)]

    def ask(self, slot, capture, output, x, y, width, height):
        """Ask for a picture of a part of an output."""
        self.count += 1
        self.asked = self.asked + [Asked(self.count, slot, capture, output, x, y, width, height)]

    def hover(self, target):
        """Say which surface is hovered, a tuple (slot, surface), or None."""
        self.hovered = target

    def ended(self, slot):
        """Forget what a program that has ended drags, sends and asks for."""
        self.drags = _of_others(self.drags, slot)
        self.sent = _of_others(self.sent, slot)
        self.asked = [asked for asked in self.asked if asked.slot != slot]
        if self.hovered is not None and self.hovered[0] == slot:
            self.hovered = None

    def relabelled(self, slot):
        """Forget what was given from a slot to which a program comes under another label."""
        self.gifts = _of_others(self.gifts, slot)
        self.primary = _of_others(self.primary, slot)

    def withdraw(self, slot, capture):
        """Forget what is asked for by a capture that has ended."""
        self.asked = [asked for asked in self.asked if (asked.slot, asked.capture) != (slot, capture)]

    def end_drags(self):
        """Let all drags be over, and return the slots that began one, in order."""
        slots = sorted([slot for slot, _ in self.drags])
        self.drags = []
        return slots


def coming(policy, kind, goods, giver, taker):
    """Return the goods that come from one label to another one by paste or by drop."""
    let = {content: octets for content, octets in goods if lets(policy, kind, content, giver, taker)}
    return [(content, list(let[content])) for content in sorted(let)]


def newest(policy, kind, given, labels, slot):
    """Return the goods that come to a slot of the newest goods of which any piece comes."""
    for giver, goods in given:
        found = coming(policy, kind, goods, labels[giver], labels[slot])
        if found:
            return found
    return []


def shared_octets(policy, sent, labels, slot, name):
    """Return the octets that a fetch of a slot has under a name, or None."""
    for giver, label in enumerate(labels):
        for sender, sent_name, octets in sent:
            if sender != giver or sent_name != name or giver == slot:
                continue
            if lets(policy, "share", _CONTENT, label, labels[slot]):
                return list(octets)
    return None


def is_present(policy, labels, taken, slot, label):
    """Tell whether a watch of a slot is told that there is a program with a label."""
    others = [labels[other] for other, is_taken in enumerate(taken) if is_taken and other != slot]
    return label in others and lets(policy, "name", _CONTENT, label, labels[slot])


def _of_others(rows, slot):
    """Return the rows that do not begin with a slot."""
    return [row for row in rows if row[0] != slot]


def _copied(goods):
    return [(kind, list(octets)) for kind, octets in goods]
