"""Policies that are read from their texts, and their canonical texts."""

from sillwatch.errors import BadPolicy
from sillwatch.policies.checks import check_items
from sillwatch.policies.items import read_items

LONGEST_POLICY = 8000


class Policy:
    """What a policy says: the labels that programs declare, in order, and its rules."""

    def __init__(self, labels, rules):
        self.labels = labels
        self.rules = rules


class Rule:
    """A rule, which allows or denies. Its giver and its taker are tuples (excludes, labels)."""

    def __init__(self, allows, kinds, contents, giver, taker):
        self.allows = allows
        self.kinds = kinds
        self.contents = contents
        self.giver = giver
        self.taker = taker


def read_policy(text):
    """Return the policy of a text."""
    labels = []
    # Of each name the labels for which it stands.
    meanings = {}
    rules = []
    for item in _checked_items(text):
        if item.word == "program":
            labels.append(item.label)
            meanings[item.name] = [item.label]
        elif item.word == "group":
            meanings[item.name] = _labels_of(item.names, meanings)
        else:
            rules.append(Rule(
                item.word == "allow", item.kinds, item.contents,
                _meant(item.giver, meanings), _meant(item.taker, meanings),
            ))
    return Policy(labels, rules)


def policy_text(text):
    """Return the canonical text of a policy."""
    return "".join([_item_text(item) + ";\n" for item in _checked_items(text)])


def _checked_items(text):
    if len(text) > LONGEST_POLICY:
        raise BadPolicy(1, 1, "too long")
    items = read_items(text)
    check_items(items)
    return items


def _labels_of(names, meanings):
    return [label for name in names for label in meanings[name]]


def _meant(who, meanings):
    """Return for whom a who stands: whether its labels are those that are left out, and its labels."""
    return who.has_any, _labels_of(who.names, meanings)


def _item_text(item):
    if item.word == "program":
        return "program " + item.name + " = " + _quoted(item.label)
    if item.word == "group":
        return "group " + item.name + " = " + _braced(item.names)
    text = item.word + " " + ", ".join(item.kinds)
    if item.contents:
        text += " of " + ", ".join([_quoted(content) for content in item.contents])
    return text + " from " + _who_text(item.giver) + " to " + _who_text(item.taker)


def _who_text(who):
    if not who.names:
        return "any"
    if not who.has_any:
        return _braced(who.names) if who.has_braces else who.names[0]
    return "any but " + (who.names[0] if len(who.names) == 1 else _braced(who.names))


def _braced(names):
    return "{" + ", ".join(names) + "}"


def _quoted(text):
    return "\"" + text.replace("\\", "\\\\").replace("\"", "\\\"") + "\""
