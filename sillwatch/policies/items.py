"""The items of a policy: programs, groups and rules, read from its text."""

from sillwatch.errors import BadPolicy
from sillwatch.policies.tokens import tokens_of

KINDS = ("paste", "drop", "capture", "share", "name")
KEYWORDS = (
    "program", "group", "allow", "deny", "of", "from", "to", "any", "but", "paste", "drop", "capture", "share", "name",
)


class Item:
    """A program, a group or a rule, with the line and the column of its first token.

    `word` is its first word, `name` the name that a program or a group declares, `label` that of a program, and
    `names` those of a group.
    """

    def __init__(self, word, line, column):
        self.word = word
        self.line = line
        self.column = column
        self.name = ""
        self.label = ""
        self.names = []
        self.kinds = []
        self.contents = []
        self.giver = None
        self.taker = None


class Who:
    """The giver or the taker of a rule: whether "any" stands in it, its names, and whether they stand in braces."""

    def __init__(self, has_any, names, has_braces):
        self.has_any = has_any
        self.names = names
        self.has_braces = has_braces


class ItemReader:
    """Reads tokens, one after another."""

    def __init__(self, text):
        self._tokens = tokens_of(text)
        self._at = 0

    def token(self):
        """Return the next token."""
        return self._tokens[self._at]

    def has(self, said):
        """Tell whether the next token is a word or a sign."""
        token = self.token()
        return token.kind in ("word", "sign") and token.said == said

    def take(self):
        """Go behind the next token, and return what it says."""
        self._at += 1
        return self._tokens[self._at - 1].said

    def took(self, said):
        """Go behind the next token if it is a word or a sign, and tell whether it is."""
        if not self.has(said):
            return False
        self.take()
        return True

    def demand(self, said, words):
        """Go behind a word or a sign that must stand here."""
        if not self.took(said):
            self.refuse(words)

    def refuse(self, words):
        """Raise the error of a fault at the next token."""
        raise BadPolicy(self.token().line, self.token().column, words)


def read_items(text):
    """Return the items of the text of a policy."""
    reader = ItemReader(text)
    items = []
    while reader.token().kind != "end":
        items.append(_read_item(reader))
    return items


def _read_item(reader):
    item = Item("", reader.token().line, reader.token().column)
    if not any([reader.has(word) for word in ("program", "group", "allow", "deny")]):
        reader.refuse("expected program, group, allow or deny")
    item.word = reader.take()
    if item.word == "program":
        item.name = _read_name(reader)
        reader.demand("=", "expected =")
        item.label = _read_text(reader)
    elif item.word == "group":
        item.name = _read_name(reader)
        reader.demand("=", "expected =")
        if not reader.has("{"):
            reader.refuse("expected {")
        item.names = _read_names(reader)
    else:
        _read_rule(reader, item)
    reader.demand(";", "expected ;")
    return item


def _read_rule(reader, rule):
    rule.kinds.append(_read_kind(reader))
    while reader.took(","):
        rule.kinds.append(_read_kind(reader))
    if reader.took("of"):
        rule.contents.append(_read_text(reader))
        while reader.took(","):
            rule.contents.append(_read_text(reader))
    reader.demand("from", "expected from")
    rule.giver = _read_who(reader)
    reader.demand("to", "expected to")
    rule.taker = _read_who(reader)


def _read_who(reader):
    has_any = reader.took("any")
    if has_any and not reader.took("but"):
        return Who(True, [], False)
    if reader.has("{"):
        return Who(has_any, _read_names(reader), True)
    return Who(has_any, [_read_name(reader)], False)


def _read_names(reader):
    """Read names in braces."""
    reader.take()
    names = [_read_name(reader)]
    while reader.took(","):
        names.append(_read_name(reader))
    reader.demand("}", "expected }")
    return names


def _read_name(reader):
    token = reader.token()
    if token.kind != "word" or token.said in KEYWORDS:
        reader.refuse("expected a name")
    return reader.take()


def _read_text(reader):
    if reader.token().kind != "text":
        reader.refuse("expected a text")
    return reader.take()


def _read_kind(reader):
    if reader.token().kind != "word" or reader.token().said not in KINDS:
        reader.refuse("expected a kind of flow")
    return reader.take()
