"""Which rules of a policy make a difference, and by which flow."""

from sillwatch.policies.flows import KINDS, is_between, named_contents, speaks_of


def clauses(policy):
    """Return for each rule the first flow by which it makes a difference, or None if it makes none."""
    rules = policy.rules
    contents = _with_unused(named_contents(rules))
    labels = _with_unused(policy.labels)
    between = {(giver, taker): _places_between(policy, giver, taker) for giver in labels for taker in labels}
    flows = [None for _ in rules]
    for kind in KINDS:
        for content in contents:
            speaking = [speaks_of(rule, kind, content) for rule in rules]
            for giver in labels:
                for taker in labels:
                    places = [at for at in between[(giver, taker)] if speaking[at]]
                    at = _decisive(rules, places)
                    if at is not None and flows[at] is None:
                        flows[at] = (kind, content, giver, taker)
    return flows


def _with_unused(texts):
    """Return texts and behind them the shortest one of letters x that is none of them."""
    unused = "x"
    while unused in texts:
        unused += "x"
    return list(texts) + [unused]


def _places_between(policy, giver, taker):
    """Return the places of the rules whose giver and whose taker stand for two labels."""
    return [at for at, rule in enumerate(policy.rules) if is_between(rule, giver, taker)]


def _decisive(rules, places):
    """Return the place of the rule without which a flow of which some rules speak changes, or None.

    A flow is let if one that allows speaks of it and none that denies, so it hangs on one rule alone: on the only one
    that allows, if none denies, or on the only one that denies, if any allows.
    """
    denying = [at for at in places if not rules[at].allows]
    allowing = [at for at in places if rules[at].allows]
    if not denying and len(allowing) == 1:
        return allowing[0]
    if len(denying) == 1 and allowing:
        return denying[0]
    return None
