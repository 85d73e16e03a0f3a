"""Points 106 to 110 word by word."""

from tests.machine_oracle import View, nothing_held, plain_rows, run


def offers(pattern, text, position):
    """What a rule offers, or None, and up to where it has seen."""
    view = View(text, plain_rows(pattern.tree, text))
    candidate, seen = run(pattern.prepared.core, nothing_held(pattern.prepared), view, position, False)
    return (candidate[1] if candidate and candidate[1] > position else None), seen


def best(rules, text, position):
    """The index of the best rule and its offer, None without an offer, and up to where was seen."""
    found = [offers(rule.pattern, text, position) for rule in rules]
    seen = max([position + 1] + [to for _, to in found])
    ranks = [
        (rule.priority, stop, -index)
        for index, (rule, (stop, _)) in enumerate(zip(rules, found)) if stop is not None
    ]
    if not ranks:
        return None, None, seen
    _, stop, index = max(ranks)
    return -index, stop, seen


def token_from(rules, text, position):
    index, stop, seen = best(rules, text, position)
    if index is not None:
        return (rules[index].name, position, stop), seen
    stop = position + 1
    while stop < len(text) and best(rules, text, stop)[0] is None:
        stop += 1
    return (None, position, stop), max(best(rules, text, p)[2] for p in range(position, stop + 1))


def rows(rules, text):
    """All tokens, each with up to where it has seen."""
    found, position = [], 0
    while position < len(text):
        found.append(token_from(rules, text, position))
        position = found[-1][0][2]
    return found


def rows_behind(rules, old, new, edit, looks):
    """The rows behind an edit, and how many were found anew."""
    position, removed, inserted = edit
    shift = len(inserted) - removed
    if looks:
        return rows(rules, new), len(rows(rules, new))
    kept = []
    for row in old:
        if row[1] > position:
            break
        kept.append(row)
    made = 0
    while not kept or kept[-1][0][2] < len(new):
        begin = kept[-1][0][2] if kept else 0
        if begin == len(new):
            break
        same = [k for k, row in enumerate(old) if row[0][1] == begin - shift]
        if begin > position + len(inserted) and same:
            for (name, start, stop), seen in old[same[0]:]:
                kept.append(((name, start + shift, stop + shift), seen + shift))
            break
        kept.append(token_from(rules, new, begin))
        made += 1
    return kept, made
