"""What the rules of a scanner offer at a position of a text."""

from firstway.threads.runs import whole_run


def offer(pattern, view, position):
    """What a rule with this Pattern offers at the position, or None, and up to where it has seen."""
    # The run goes on without registers: what groups hold changes nothing of where it ends.
    run = whole_run(pattern.prepared.core, None, view, position, renewing=False)
    if run.candidate is None:
        return (None, run.position)
    stop = run.candidate[1]
    return (stop if stop > position else None, run.position)


def best_offer(rules, views, position):
    """The index of the rule with the best offer and what it offers, or None for both, and up to
    where the scanner has seen."""
    best = (None, None)
    best_rank = None
    seen = position + 1
    for index, rule in enumerate(rules):
        stop, rule_seen = offer(rule.pattern, views[index], position)
        seen = max(seen, rule_seen)
        if stop is not None and (best_rank is None or (rule.priority, stop) > best_rank):
            best = (index, stop)
            best_rank = (rule.priority, stop)
    return (*best, seen)
