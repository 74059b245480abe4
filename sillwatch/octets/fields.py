"""The arguments of messages: their kinds, and writing and reading them."""

from sillwatch.errors import BadLength, BadMessage, BadPadding, BadText, ObjectMissing

GREATEST_NUMBER = 4294967295
LEAST_INT = -2147483648
GREATEST_INT = 2147483647
LONGEST_TEXT = 1000
MOST_OCTETS = 16384

_FIRST_CODE = 32
_LAST_CODE = 126
_PERCENT_CODE = 37
# From the first code to the last one. A blank holds the place of the percent sign, which no text has.
_CHARACTERS = " !\"#$ &'()*+,-./0123456789:;<=>?@ABCDEFGHIJKLMNOPQRSTUVWXYZ[\\]^_`abcdefghijklmnopqrstuvwxyz{|}~"


def is_integer(value, least, greatest):
    """Tell whether a value of any kind is an integer from the least to the greatest one."""
    return isinstance(value, int) and not isinstance(value, bool) and least <= value <= greatest


def is_text(value):
    """Tell whether a string is a text."""
    return len(value) <= LONGEST_TEXT and all([_is_code(ord(character)) for character in value])


def number_octets(number, count):
    """Return so many octets of a number, the lowest first."""
    return [number >> (8 * place) & 255 for place in range(count)]


def number_at(octets, at, count):
    """Return the number that so many octets from a place on give, the lowest first."""
    return sum([octets[at + place] << (8 * place) for place in range(count)])


def field_octets(kind, value):
    """Return the octets of one argument."""
    if not _is_of(kind, value):
        raise BadMessage("a value is none of its kind")
    if kind == "text":
        return _text_octets(value)
    if kind == "octets":
        return _padded(number_octets(len(value), 4) + value)
    if kind == "bound":
        text, number = value
        return _text_octets(text) + number_octets(number, 4)
    return number_octets(value % 2 ** 32, 4)


def read_arguments(kinds, octets):
    """Return the list of the values that the octets give by a list of kinds."""
    values = []
    at = 0
    for kind in kinds:
        value, at = _read(kind, octets, at)
        values.append(value)
    if at < len(octets):
        raise BadLength("octets go on behind the last argument")
    return values


def _is_code(code):
    return _FIRST_CODE <= code <= _LAST_CODE and code != _PERCENT_CODE


def _is_of(kind, value):
    """Tell whether there is the kind, and the value is one of it."""
    if kind == "uint" or kind == "maybe":
        return is_integer(value, 0, GREATEST_NUMBER)
    if kind == "int":
        return is_integer(value, LEAST_INT, GREATEST_INT)
    if kind == "object" or kind == "new":
        return is_integer(value, 1, GREATEST_NUMBER)
    if kind == "text":
        return isinstance(value, str) and is_text(value)
    if kind == "octets":
        return _are_octets(value)
    return kind == "bound" and _is_bound(value)


def _are_octets(value):
    if not isinstance(value, list) or len(value) > MOST_OCTETS:
        return False
    return all([is_integer(octet, 0, 255) for octet in value])


def _is_bound(value):
    if not isinstance(value, tuple) or len(value) != 2:
        return False
    return _is_of("text", value[0]) and _is_of("new", value[1])


def _text_octets(text):
    codes = [ord(character) for character in text]
    return _padded(number_octets(len(codes) + 1, 4) + codes + [0])


def _padded(octets):
    return octets + [0] * (-len(octets) % 4)


def _read(kind, octets, at):
    """Return the value of the argument that begins at a place, and the place behind it."""
    if kind == "text":
        return _read_text(octets, at)
    if kind == "octets":
        return _read_octets(octets, at)
    if kind == "bound":
        text, behind = _read_text(octets, at)
        number, behind = _read_named(octets, behind)
        return (text, number), behind
    if kind == "object" or kind == "new":
        return _read_named(octets, at)
    number, behind = _read_number(octets, at)
    if kind == "int" and number > GREATEST_INT:
        number -= 2 ** 32
    return number, behind


def _read_number(octets, at):
    _demand(octets, at + 4)
    return number_at(octets, at, 4), at + 4


def _read_named(octets, at):
    """Read a number that may not be 0."""
    number, behind = _read_number(octets, at)
    if number == 0:
        raise ObjectMissing("no object is named")
    return number, behind


def _read_text(octets, at):
    length, begin = _read_number(octets, at)
    if not 1 <= length <= LONGEST_TEXT + 1:
        raise BadLength("the length of a text is out of range")
    end = begin + length
    _demand(octets, end)
    codes = octets[begin:end - 1]
    if octets[end - 1] != 0 or not all([_is_code(code) for code in codes]):
        raise BadText("this is no text")
    behind = _behind_padding(octets, end)
    return "".join([_CHARACTERS[code - _FIRST_CODE] for code in codes]), behind


def _read_octets(octets, at):
    length, begin = _read_number(octets, at)
    if length > MOST_OCTETS:
        raise BadLength("a list of octets is too long")
    end = begin + length
    behind = _behind_padding(octets, end)
    return octets[begin:end], behind


def _demand(octets, end):
    """Raise an error unless there are octets up to a place."""
    if len(octets) < end:
        raise BadLength("the octets end within an argument")


def _behind_padding(octets, end):
    """Check the padding and return the place behind it."""
    # Every argument has a multiple of four octets, so this is the padding from its own beginning, too.
    behind = end + -end % 4
    _demand(octets, behind)
    if any(octets[end:behind]):
        raise BadPadding("the padding is not zeros")
    return behind
