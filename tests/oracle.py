"""The rules of the document, word by word and without any care for time: what the tests compare with."""

import random

LETTERS = ((97, 98), (98, 99), (97, 99), (10, 11), (95, 96), (32, 33), (97, 123))
ANCHORS = ("text_start", "text_end", "line_start", "line_end", "word_boundary", "no_word_boundary")


def in_set(codes, sign):
    return any(low <= ord(sign) < high for low, high in codes)


def is_word(sign):
    return sign is not None and (sign.isalnum() or sign == "_")


def holds(name, text, i):
    before = text[i - 1] if i > 0 else None
    after = text[i] if i < len(text) else None
    return {
        "text_start": before is None,
        "text_end": after is None,
        "line_start": before is None or before in "\n\r",
        "line_end": after is None or after in "\n\r",
        "word_boundary": is_word(before) != is_word(after),
        "no_word_boundary": is_word(before) == is_word(after),
    }[name]


def groups_in(tree):
    found = [tree[1]] if tree[0] == "group" else []
    for part in tree:
        if isinstance(part, tuple) and part and isinstance(part[0], str):
            found += groups_in(part)
    return found


def cleared(tree, held):
    inner = groups_in(tree)
    return tuple(None if n in inner else span for n, span in enumerate(held))


def once(found):
    ends = []
    kept = []
    for end, held in found:
        if end not in ends:
            ends.append(end)
            kept.append((end, held))
    return kept


def ways(tree, text, i, held, backward):
    return once(list(_ways(tree, text, i, held, backward)))


def _ways(tree, text, i, held, backward):
    kind = tree[0]
    if kind == "empty":
        yield i, held
    elif kind == "set":
        at = i - 1 if backward else i
        if 0 <= at < len(text) and in_set(tree[1], text[at]):
            yield (i - 1 if backward else i + 1), held
    elif kind == "sequence":
        first, second = (tree[2], tree[1]) if backward else (tree[1], tree[2])
        for e, g in ways(first, text, i, held, backward):
            yield from ways(second, text, e, g, backward)
    elif kind == "choice":
        yield from ways(tree[1], text, i, held, backward)
        yield from ways(tree[2], text, i, held, backward)
    elif kind == "group":
        for e, g in ways(tree[2], text, i, held, backward):
            yield e, g[:tree[1]] + ((min(i, e), max(i, e)),) + g[tree[1] + 1:]
    elif kind == "anchor":
        if holds(tree[1], text, i):
            yield i, held
    elif kind == "look":
        found = ways(tree[3], text, i, cleared(tree[3], held), not tree[1])
        if tree[2] and found:
            yield i, found[0][1]
        if not tree[2] and not found:
            yield i, held
    else:
        yield from _repeat(tree[1], tree[2], tree[3], tree[4], text, i, held, backward)


def _repeat(a, least, most, greedy, text, i, held, backward):
    if least:
        for e, g in ways(a, text, i, cleared(a, held), backward):
            rest = None if most is None else most - 1
            yield from ways(("repeat", a, least - 1, rest, greedy), text, e, g, backward)
        return
    if not greedy or most == 0:
        yield i, held
    if most != 0:
        for e, g in ways(a, text, i, cleared(a, held), backward):
            if e != i:
                rest = None if most is None else most - 1
                yield from ways(("repeat", a, 0, rest, greedy), text, e, g, backward)
        if greedy:
            yield i, held


class Maker:
    """Makes trees and texts, the same ones in each run."""

    def __init__(self, seed, *, looks=3):
        self.chance = random.Random(seed)
        self.looks_at_most = looks
        self.group_total = 0
        self.looks = 0

    def tree(self, depth):
        self.group_total = 0
        self.looks = 0
        return self._tree(depth)

    def _leaf(self):
        pick = self.chance.random()
        if pick < 0.1:
            return ("empty",)
        if pick < 0.2:
            return ("anchor", self.chance.choice(ANCHORS))
        if pick < 0.25:
            return ("set", ())
        return ("set", (self.chance.choice(LETTERS),))

    def _counts(self):
        least = self.chance.choice((0, 0, 0, 1, 1, 2))
        most = self.chance.choice((None, None, least, least + 1, least + 2))
        return least, most

    def _tree(self, depth):
        if depth == 0 or self.chance.random() < 0.1:
            return self._leaf()
        pick = self.chance.random()
        if pick < 0.35:
            return ("sequence", self._tree(depth - 1), self._tree(depth - 1))
        if pick < 0.55:
            return ("choice", self._tree(depth - 1), self._tree(depth - 1))
        if pick < 0.75:
            least, most = self._counts()
            return ("repeat", self._tree(depth - 1), least, most, self.chance.random() < 0.6)
        if pick < 0.9 or self.looks == self.looks_at_most:
            number = self.group_total
            self.group_total += 1
            return ("group", number, self._tree(depth - 1))
        self.looks += 1
        signs = (self.chance.random() < 0.5, self.chance.random() < 0.7)
        return ("look", *signs, self._tree(depth - 1))

    def text(self, length):
        return "".join(self.chance.choice("aaabb_ \nc") for _ in range(self.chance.randint(0, length)))

    def held(self):
        spans = (None, (0, 0), (7, 9))
        return tuple(self.chance.choice(spans) for _ in range(self.group_total))
