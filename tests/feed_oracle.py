"""Points 78 to 82 word by word: each piece is followed from where the next match is searched."""

from tests.machine_oracle import View, advanced, moves_left, nothing_held
from tests.oracle import in_set

TEXT_SIGNS = "\t\n" + "".join(chr(code) for code in range(32, 127) if code != 37)
WAITING = ("text_end", "line_end", "word_boundary", "no_word_boundary")


def possible(core_tree):
    kind = core_tree[0]
    if kind == "set":
        return any(in_set(core_tree[2], sign) for sign in TEXT_SIGNS)
    if kind == "sequence":
        return possible(core_tree[1]) and possible(core_tree[2])
    if kind == "choice":
        return possible(core_tree[1]) or possible(core_tree[2])
    if kind == "nonempty":
        return fillable(core_tree[1])
    return True


def fillable(core_tree):
    kind = core_tree[0]
    if kind == "set":
        return possible(core_tree)
    if kind == "sequence":
        one_is = fillable(core_tree[1]) or fillable(core_tree[2])
        return one_is and possible(core_tree[1]) and possible(core_tree[2])
    if kind == "choice":
        return fillable(core_tree[1]) or fillable(core_tree[2])
    return kind in ("nonempty", "star") and fillable(core_tree[1])


def names_of_anchors(tree):
    if tree[0] == "anchor":
        return [tree[1]]
    found = []
    for part in tree:
        if isinstance(part, tuple) and part and isinstance(part[0], str):
            found += names_of_anchors(part)
    return found


def has_look(tree):
    return tree[0] == "look" or any(
        has_look(part) for part in tree if isinstance(part, tuple) and part and isinstance(part[0], str)
    )


class SlowFeed:

    def __init__(self, pattern):
        self.pattern = pattern
        self.core = pattern.prepared.core
        self.fresh = nothing_held(pattern.prepared)
        self.text = ""
        self.begin = 0
        self.told = 0
        self.position = 0
        self.threads = []

    def left_possible(self, number):
        trees = (self.core.tree,) if number is None else self.core.rests[number]
        return all(possible(tree) for tree in trees)

    def is_open(self, number):
        return any(in_set(self.core.sets[number], sign) for sign in TEXT_SIGNS) and self.left_possible(number)

    def push(self, piece):
        self.text += piece
        found = []
        while not has_look(self.pattern.tree):
            certain = self.certain()
            if certain is None:
                break
            start, stop, registers = certain
            found.append((start, stop, registers[1]))
            self.begin = stop + 1 if start == stop else stop
        self.told += len(found)
        return found

    def certain(self):
        view = View(self.text, [])
        self.threads, candidate, self.position = [], None, self.begin
        while self.position < len(self.text):
            if candidate is None:
                self.threads = self.threads + [(self.position, None, self.fresh)]
            self.threads, candidate = advanced(self.core, self.threads, candidate, view.spot(self.position))
            self.position += 1
            if candidate and not any(self.left_possible(number) for _, number, _ in self.threads):
                return candidate
        waits = any(name in WAITING for name in names_of_anchors(self.pattern.tree))
        if self.position != len(self.text) or waits:
            return None
        asked = list(self.threads)
        if candidate is None:
            asked.append((self.position, None, self.fresh))
        for start, number, registers in asked:
            for taken, held in moves_left(self.core, number, view.spot(self.position), registers):
                if taken is None:
                    return start, self.position, held
                if self.is_open(taken):
                    return None
        return candidate

    def held(self):
        for start, number, _ in self.threads:
            if self.left_possible(number):
                return start
        return self.position
