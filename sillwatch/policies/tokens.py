"""The tokens of a policy: words, texts and signs, with their places."""

from sillwatch.errors import BadPolicy

_FIRST_OF_WORD = "abcdefghijklmnopqrstuvwxyz"
_REST_OF_WORD = "abcdefghijklmnopqrstuvwxyz0123456789_"
_SIGNS = "{},=;"
_BLANKS = " \t\n"


class Token:
    """A token: its kind ("word", "text", "sign" or "end"), what it says, its line and its column."""

    def __init__(self, kind, said, line, column):
        self.kind = kind
        self.said = said
        self.line = line
        self.column = column


def tokens_of(text):
    """Return the tokens of a text. The last one stands at its end."""
    tokens = []
    line = 1
    line_begin = 0
    at = 0
    while at < len(text):
        column = at - line_begin + 1
        if text[at] == "\n":
            line += 1
            line_begin = at + 1
        kind, said, behind = _token_at(text, at)
        if behind is None:
            raise BadPolicy(line, column, said)
        if kind != "blank":
            tokens.append(Token(kind, said, line, column))
        at = behind
    return tokens + [Token("end", "", line, at - line_begin + 1)]


def _token_at(text, at):
    """Return the kind of what begins at a place, what it says, and the place behind it.

    Of a fault the words are returned, and no place.
    """
    character = text[at]
    if character in _BLANKS:
        return "blank", "", at + 1
    if character == "#":
        end = text.find("\n", at)
        return "blank", "", len(text) if end < 0 else end
    if character in _SIGNS:
        return "sign", character, at + 1
    if character == "\"":
        return _text_at(text, at)
    if character not in _FIRST_OF_WORD:
        return "fault", "not a sign", None
    behind = at
    while behind < len(text) and text[behind] in _REST_OF_WORD:
        behind += 1
    return "word", text[at:behind], behind


def _text_at(text, at):
    """Return the same as _token_at, for a text between double quotes."""
    said = []
    at += 1
    while at < len(text) and text[at] != "\n":
        if text[at] == "\"":
            return "text", "".join(said), at + 1
        if text[at] == "\\":
            at += 1
            if text[at:at + 1] not in ("\"", "\\"):
                break
        said.append(text[at])
        at += 1
    return "fault", "text without end", None
