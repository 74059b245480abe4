"""All errors of the program."""


class DisplayError(ValueError):
    """The base class of all errors of the program."""


class BadMessage(DisplayError):
    """A message cannot be written: a number, a kind or a value is none."""


class MessageTooLong(DisplayError):
    """A message would have more octets than its size can tell."""


class BadArguments(DisplayError):
    """The base class of what can be wrong with the arguments of a message."""


class BadLength(BadArguments):
    """The octets end too early or go on too long, or a length is out of its range."""


class BadText(BadArguments):
    """The characters of a text are none, or no zero stands behind them."""


class BadPadding(BadArguments):
    """An octet of the padding is not 0."""


class ObjectMissing(BadArguments):
    """The number 0 stands where an object must be named."""


class Fault(DisplayError):
    """What ends a program: told of an object, with a code and words."""

    def __init__(self, number, code, words):
        super().__init__(words)
        self.number = number
        self.code = code
        self.words = words


class BadKeymap(DisplayError):
    """A text is no keymap: the place of a character, and words."""

    def __init__(self, place, words):
        super().__init__(words)
        self.place = place
        self.words = words


class BadOutputs(DisplayError):
    """A list of outputs is none that a server can have."""


class NoSuchPicture(DisplayError):
    """No output with the number was painted last."""


class OutsidePicture(DisplayError):
    """A rectangle reaches beyond a picture."""


class TooManyPixels(DisplayError):
    """More pixels are asked for than are given at once."""


class RegionTooLarge(DisplayError):
    """A region reaches too far out."""


class RegionTooComplex(DisplayError):
    """A region has too many rectangles."""


class BadPolicy(DisplayError):
    """A text is no policy: the line and the column of the place, and words."""

    def __init__(self, line, column, words):
        super().__init__(words)
        self.line = line
        self.column = column
        self.words = words


class BadTime(DisplayError):
    """A time is less than the one before."""


class SlotIsTaken(DisplayError):
    """There is a program in the slot already."""


class NothingAsked(DisplayError):
    """No capture with the number is asked for."""
