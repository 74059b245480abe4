"""What one program has sent and was told."""

from sillwatch.octets.fields import number_at
from sillwatch.octets.messages import HEADER_SIZE, cut_messages, is_message_size

MOST_QUEUED = 16384
MOST_UNREAD = 1024
MOST_UNREAD_OCTETS = 65536
OCTETS_FOR_A_UNIT = 256


class Mailbox:
    """The octets that are not handled yet, and the messages that are not read yet."""

    def __init__(self):
        self._queue = []
        self._unread = []
        self._unread_octets = 0

    def put(self, octets):
        """Take as many octets as there is room for, and return how many."""
        taken = octets[:MOST_QUEUED - len(self._queue)]
        self._queue.extend(taken)
        return len(taken)

    def cost(self):
        """Return the cost of the message at the front, or None if no whole message is there."""
        size = self._front_size()
        if size is None or not is_message_size(size) or size > len(self._queue):
            return None
        return 1 + (size + OCTETS_FOR_A_UNIT - 1) // OCTETS_FOR_A_UNIT

    def take(self):
        """Take the message at the front, which is whole, out, and return it: a tuple (number, opcode, body)."""
        size = self._front_size()
        messages, _, _ = cut_messages(self._queue[:size])
        del self._queue[:size]
        return messages[0]

    def is_bad(self):
        """Tell whether what stands at the front cannot be a message."""
        size = self._front_size()
        return size is not None and not is_message_size(size)

    def tell(self, octets):
        """Put a message behind those that are unread."""
        self._unread.append(list(octets))
        self._unread_octets += len(octets)

    def read(self, most):
        """Return the octets of as many unread messages as so many octets hold, which are unread no more."""
        octets = []
        count = 0
        for message in self._unread:
            if len(octets) + len(message) > most:
                break
            octets.extend(message)
            count += 1
        del self._unread[:count]
        self._unread_octets -= len(octets)
        return octets

    def is_slow(self):
        """Tell whether more is unread than a program may leave."""
        return len(self._unread) > MOST_UNREAD or self._unread_octets > MOST_UNREAD_OCTETS

    def close(self):
        """Forget what was put."""
        self._queue = []

    def queued(self):
        """Return how many octets are not handled yet."""
        return len(self._queue)

    def unread(self):
        """Return how many messages are unread."""
        return len(self._unread)

    def _front_size(self):
        """Return the size that the header at the front tells, or None if no whole header is there."""
        return number_at(self._queue, 6, 2) if len(self._queue) >= HEADER_SIZE else None
