"""Classes: sets that are written in square brackets."""

from firstway.errors import PatternError
from firstway.notation.escapes import read_escape
from firstway.sets.ranges import common, complement, folded, make_set, without

_CLASSES_AT_MOST = 4


class ClassParts:
    """What has been read of a class: the parts that have ended, and the present one."""

    def __init__(self, fold):
        self.fold = fold
        self.codes = ()
        self.operator = None
        self.pairs = []
        self.has_item = False
        self.single = None

    def add_single(self, code):
        """Adds a single to the present part; a hyphen may follow."""
        self.add_ranges(((code, code + 1),))
        self.single = code

    def add_ranges(self, ranges):
        """Adds an item that is no single to the present part."""
        self.pairs.extend(ranges)
        self.has_item = True
        self.single = None

    def begin_part(self, operator, column):
        """Ends the present part at an operator with this column."""
        if not self.has_item and self.operator is None:
            raise PatternError(column, "something ahead of the operator")
        self._end_part(column)
        self.operator = operator
        self.pairs = []
        self.has_item = False
        self.single = None

    def ended(self, column):
        """The set of all parts; the class ends at this column."""
        self._end_part(column)
        return self.codes

    def _end_part(self, column):
        """Lets the operator ahead of the present part work."""
        if not self.has_item and self.operator is not None:
            raise PatternError(column, "something behind the operator")
        part = make_set(self.pairs)
        if self.fold:
            part = folded(part)
        if self.operator is None:
            self.codes = part
        elif self.operator == "&&":
            self.codes = common(self.codes, part)
        else:
            self.codes = without(self.codes, part)


def read_class(source, at, fold, classes_open=0):
    """Reads the class whose bracket has the index `at`: its set, and the index behind it.

    With `fold`, the sets of its parts are folded. `classes_open` classes are open around it.
    """
    if classes_open == _CLASSES_AT_MOST:
        raise PatternError(at + 1, "less nesting")
    inverted = source[at + 1:at + 2] == "^"
    at += 2 if inverted else 1
    parts = ClassParts(fold)
    while source[at:at + 1] != "]":
        if source[at:at + 2] in ("--", "&&"):
            parts.begin_part(source[at:at + 2], at + 1)
            at += 2
        elif source[at:at + 1] == "[":
            codes, at = read_class(source, at, fold, classes_open + 1)
            parts.add_ranges(codes)
        else:
            at = _read_item(source, at, parts)
    codes = parts.ended(at + 1)
    return (complement(codes) if inverted else codes, at + 1)


def _read_item(source, at, parts):
    """Reads what is no class and no operator; returns the index behind it."""
    if source[at:at + 1] == "-":
        return _read_range(source, at, parts)
    code, codes, after = _read_member(source, at)
    if code is None:
        parts.add_ranges(codes)
    else:
        parts.add_single(code)
    return after


def _read_member(source, at):
    """Reads a character or an escape: its code or None, its set or None, and the index behind it."""
    sign = source[at:at + 1]
    if sign == "":
        raise PatternError(at + 1, "the end of the class")
    if sign != "\\":
        return (ord(sign), None, at + 1)
    kind, meaning, after = read_escape(source, at, in_class=True)
    if kind == "code":
        return (meaning, None, after)
    return (None, meaning, after)


def _read_range(source, at, parts):
    """Reads the rest of a range whose hyphen has the index `at`; returns the index behind it."""
    first = parts.single
    if first is None:
        raise PatternError(at + 1, "a backslash ahead of this character")
    if source[at + 1:at + 2] in ("]", "[") or source[at + 1:at + 3] == "&&":
        raise PatternError(at + 2, "a character behind the hyphen")
    last, _, after = _read_member(source, at + 1)
    if last is None:
        raise PatternError(at + 2, "a character behind the hyphen")
    if last < first:
        raise PatternError(at + 2, "a character not less than the first")
    parts.add_ranges(((first, last + 1),))
    return after
