"""Keymaps: their texts, and the symbols that codes give."""

from sillwatch.errors import BadKeymap
from sillwatch.octets.fields import is_text

MOST_LAYOUTS = 4
MOST_SYMBOLS = 4
LONGEST_NAME = 20
GREATEST_CODE = 255
MODIFIERS = ("shift", "control", "alt", "level", "super")
LOCKS = ("caps", "number", "layout")

_DIGITS = "0123456789"
_WORD_CHARACTERS = "abcdefghijklmnopqrstuvwxyzABCDEFGHIJKLMNOPQRSTUVWXYZ0123456789_"
_SIGNS = "{}:;"


class Keymap:
    """The layouts of a keymap: tuples (name, rows) with a dict: code -> list of tuples (kind, word)."""

    def __init__(self, layouts):
        self.layouts = layouts


class KeymapReader:
    """Reads the tokens of a keymap, one after another. Behind the last one stands an empty one."""

    def __init__(self, text):
        self._tokens = _tokens(text) + [(len(text), "")]
        self._at = 0

    def word(self):
        """Return the next token."""
        return self._tokens[self._at][1]

    def take(self):
        """Return the next token and go behind it."""
        word = self.word()
        self._at += 1
        return word

    def demand(self, word, words):
        """Go behind a token that must stand here."""
        if self.word() != word:
            self.refuse(words)
        self.take()

    def refuse(self, words):
        """Raise the error of a problem with the next token."""
        raise BadKeymap(self._tokens[self._at][0], words)


def read_keymap(text):
    """Return the keymap of a text."""
    reader = KeymapReader(text)
    layouts = []
    while reader.word() != "":
        if reader.word() == "layout" and len(layouts) == MOST_LAYOUTS:
            reader.refuse("too many layouts")
        reader.demand("layout", "expected layout")
        name = _read_name(reader, [name for name, _ in layouts])
        layouts.append((name, _read_rows(reader)))
    return Keymap(layouts)


def keymap_text(keymap):
    """Return the canonical text of a keymap."""
    parts = []
    for name, rows in keymap.layouts:
        parts.append("layout " + name + "{")
        parts.extend([str(code) + ":" + _row_text(rows[code]) + ";" for code in sorted(rows)])
        parts.append("}")
    return "".join(parts)


def symbol_of(keymap, layout, code, modifiers):
    """Return the symbol, a tuple (kind, word), that a code gives while modifiers are held, or None without a row."""
    if layout >= len(keymap.layouts):
        return None
    row = keymap.layouts[layout][1].get(code)
    if row is None:
        return None
    level = 0
    if "shift" in modifiers:
        level += 1
    if "level" in modifiers:
        level += 2
    return row[min(level, len(row) - 1)]


def _tokens(text):
    """Return the tokens (place, word) of a text. A character stands behind its apostrophe."""
    found = []
    at = 0
    while at < len(text):
        behind = _behind_token(text, at)
        if text[at] != " ":
            found.append((at, text[at:behind]))
        at = behind
    return found


def _behind_token(text, at):
    """Return the place behind the token, or the space, that begins at a place."""
    if text[at] == "'" and at + 1 < len(text) and is_text(text[at + 1]):
        return at + 2
    if text[at] == " " or text[at] in _SIGNS:
        return at + 1
    if text[at] not in _WORD_CHARACTERS:
        raise BadKeymap(at, "expected a word")
    while at < len(text) and text[at] in _WORD_CHARACTERS:
        at += 1
    return at


def _is_name(word):
    return 1 <= len(word) <= LONGEST_NAME and word[0] in _WORD_CHARACTERS and word[0] not in _DIGITS


def _is_code(word):
    return word.isdigit() and word[0] != "0" and len(word) <= 3 and int(word) <= GREATEST_CODE


def _read_name(reader, names):
    """Read the name of a layout, which none of the names may be."""
    if not _is_name(reader.word()):
        reader.refuse("expected a name")
    if reader.word() in names:
        reader.refuse("name is used already")
    return reader.take()


def _read_rows(reader):
    reader.demand("{", "expected {")
    rows = {}
    while reader.word() != "}":
        if not _is_code(reader.word()):
            reader.refuse("expected a number")
        if int(reader.word()) in rows:
            reader.refuse("code is used already")
        code = int(reader.take())
        reader.demand(":", "expected :")
        rows[code] = _read_row(reader)
    reader.take()
    return rows


def _read_row(reader):
    """Read the symbols of a row and the sign behind them."""
    row = []
    while not row or reader.word() != ";":
        if reader.word()[:1] != "'" and not _is_name(reader.word()):
            reader.refuse("expected a symbol")
        if len(row) == MOST_SYMBOLS:
            reader.refuse("too many symbols")
        row.append(_read_symbol(reader))
    reader.take()
    return row


def _read_symbol(reader):
    word = reader.take()
    if word[0] == "'":
        return "character", word[1]
    if word == "mod":
        if reader.word() not in MODIFIERS:
            reader.refuse("expected a modifier")
        return "mod", reader.take()
    if word == "lock":
        if reader.word() not in LOCKS:
            reader.refuse("expected a lock")
        return "lock", reader.take()
    return "name", word


def _row_text(row):
    text = ""
    last_kind = "character"
    for kind, word in row:
        # Only words need something between them.
        if last_kind != "character" and kind != "character":
            text += " "
        text += _symbol_text(kind, word)
        last_kind = kind
    return text


def _symbol_text(kind, word):
    if kind == "character":
        return "'" + word
    return word if kind == "name" else kind + " " + word
