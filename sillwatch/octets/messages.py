"""Messages: writing them, and cutting them from what was sent."""

from sillwatch.errors import BadMessage, MessageTooLong
from sillwatch.octets.fields import GREATEST_NUMBER, field_octets, is_integer, number_at, number_octets

HEADER_SIZE = 8
GREATEST_SIZE = 20480
GREATEST_OPCODE = 65535
MOST_ARGUMENTS = 20


def encode_message(number, opcode, arguments):
    """Return the octets of a message; its arguments are tuples (kind, value)."""
    if not is_integer(number, 1, GREATEST_NUMBER):
        raise BadMessage("the number of the object is out of range")
    if not is_integer(opcode, 0, GREATEST_OPCODE):
        raise BadMessage("the opcode is out of range")
    if len(arguments) > MOST_ARGUMENTS:
        raise BadMessage("there are too many arguments")
    body = []
    for kind, value in arguments:
        body.extend(field_octets(kind, value))
    size = HEADER_SIZE + len(body)
    if size > GREATEST_SIZE:
        raise MessageTooLong("the message is too long")
    return number_octets(number, 4) + number_octets(opcode, 2) + number_octets(size, 2) + body


def cut_messages(octets):
    """Return the messages that can be cut, the octets that are left, and whether there is a fault."""
    messages, at, fault = _cut(octets)
    return messages, octets[at:], fault


def is_message_size(size):
    """Tell whether a message can have a size in octets."""
    return HEADER_SIZE <= size <= GREATEST_SIZE and size % 4 == 0


class Cutter:
    """Cuts messages from octets that come in portions."""

    def __init__(self):
        self._octets = []
        self._fault = False

    @property
    def fault(self):
        """Whether there has been a fault."""
        return self._fault

    @property
    def uncut(self):
        """The octets that have not been cut."""
        return list(self._octets)

    def feed(self, octets):
        """Take octets, and return the messages that can be cut now."""
        self._octets.extend(octets)
        # A fault stays at the front, so nothing is cut any more from the first one on.
        messages, at, fault = _cut(self._octets)
        self._fault = fault
        del self._octets[:at]
        return messages


def _cut(octets):
    """Return the messages at the front, the place behind the last one, and whether a fault stands there."""
    messages = []
    at = 0
    while at + HEADER_SIZE <= len(octets):
        size = number_at(octets, at + 6, 2)
        if not is_message_size(size):
            return messages, at, True
        if at + size > len(octets):
            break
        body = octets[at + HEADER_SIZE:at + size]
        messages.append((number_at(octets, at, 4), number_at(octets, at + 4, 2), body))
        at += size
    return messages, at, False
