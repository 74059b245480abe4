"""The faults of items that can be read: too many, names that are used twice, and the like."""

from sillwatch.errors import BadPolicy

MOST_ITEMS = 60
MOST_PROGRAMS = 12
MOST_CONTENTS = 24
LONGEST_TEXT = 100
KINDS_WITH_CONTENTS = ("paste", "drop")


def check_items(items):
    """Raise the first fault of a list of items."""
    _check_numbers(items)
    # Of each name that is declared whether it is that of a program.
    declared = {}
    labels = []
    for item in items:
        if item.word == "program":
            words = _fault_of_program(item, declared, labels)
        elif item.word == "group":
            words = _fault_of_group(item, declared)
        else:
            words = _fault_of_rule(item, declared)
        if words != "":
            raise BadPolicy(item.line, item.column, words)
        if item.word == "program":
            labels.append(item.label)
        if item.name != "":
            declared[item.name] = item.word == "program"


def _check_numbers(items):
    if len(items) > MOST_ITEMS:
        raise BadPolicy(1, 1, "too many items")
    if len([item for item in items if item.word == "program"]) > MOST_PROGRAMS:
        raise BadPolicy(1, 1, "too many programs")
    if sum([len(item.contents) for item in items]) > MOST_CONTENTS:
        raise BadPolicy(1, 1, "too many contents")


def _fault_of_program(item, declared, labels):
    if item.name in declared:
        return "name is used already: " + item.name
    if item.label in labels:
        return "label is used already"
    return "" if _has_good_length(item.label) else "bad label"


def _fault_of_group(item, declared):
    if item.name in declared:
        return "name is used already: " + item.name
    for name in item.names:
        if not declared.get(name, False):
            return "not a program: " + name
    return _fault_of_twice(item.names)


def _fault_of_rule(rule, declared):
    if _first_twice(rule.kinds) is not None:
        return "kind stands twice"
    if _first_twice(rule.contents) is not None:
        return "content stands twice"
    if not all([_has_good_length(content) for content in rule.contents]):
        return "bad content"
    if rule.contents and not all([kind in KINDS_WITH_CONTENTS for kind in rule.kinds]):
        return "contents go with paste and drop alone"
    for name in rule.giver.names + rule.taker.names:
        if name not in declared:
            return "unknown name: " + name
    words = _fault_of_twice(rule.giver.names)
    return _fault_of_twice(rule.taker.names) if words == "" else words


def _fault_of_twice(names):
    name = _first_twice(names)
    return "" if name is None else "name stands twice: " + name


def _first_twice(words):
    """Return the first of some words that stands again behind it, or None."""
    for at, word in enumerate(words):
        if word in words[at + 1:]:
            return word
    return None


def _has_good_length(text):
    return 1 <= len(text) <= LONGEST_TEXT
