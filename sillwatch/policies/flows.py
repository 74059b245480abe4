"""What a policy lets flow, and the ways on which labels can give to one another."""

KINDS = ("paste", "drop", "capture", "share", "name")
# A content that no rule names.
_UNNAMED = ""


def lets(policy, kind, content, giver, taker):
    """Tell whether a flow is let."""
    return _are_letting(_rules_between(policy, giver, taker), kind, content)


def can_give(policy, giver, taker):
    """Tell whether one label can give something to another one."""
    rules = _rules_between(policy, giver, taker)
    contents = named_contents(rules) + [_UNNAMED]
    return any([_are_letting(rules, kind, content) for kind in KINDS for content in contents])


def way(policy, labels, giver, taker):
    """Return the first shortest way from a giver to a taker, a list of labels, or None if there is none."""
    # Of each label that was found the one from which it was, in the order in which they were found.
    found = {giver: None}
    waiting = [giver]
    while waiting and taker not in found:
        level = []
        for present in waiting:
            for label in labels:
                if label not in found and can_give(policy, present, label):
                    found[label] = present
                    level.append(label)
        waiting = level
    return _back_from(found, taker) if taker in found else None


def speaks_of(rule, kind, content):
    """Tell whether a rule names a kind, and names a content or has no contents."""
    return kind in rule.kinds and (not rule.contents or content in rule.contents)


def is_between(rule, giver, taker):
    """Tell whether the giver and the taker of a rule stand for two labels."""
    return _stands_for(rule.giver, giver) and _stands_for(rule.taker, taker)


def named_contents(rules):
    """Return the contents that rules name, each once, in the order of their first places."""
    found = {}
    for rule in rules:
        for content in rule.contents:
            found[content] = True
    return list(found)


def _stands_for(who, label):
    excludes, labels = who
    return (label in labels) != excludes


def _rules_between(policy, giver, taker):
    return [rule for rule in policy.rules if is_between(rule, giver, taker)]


def _are_letting(rules, kind, content):
    """Tell whether some rule that allows speaks of a flow, and none that denies."""
    speaking = [rule.allows for rule in rules if speaks_of(rule, kind, content)]
    return bool(speaking) and all(speaking)


def _back_from(found, label):
    """Return the labels from the first one that was found to a label."""
    labels = [label]
    while found[labels[0]] is not None:
        labels.insert(0, found[labels[0]])
    return labels
