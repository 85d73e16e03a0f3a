"""Points 87 and 90 to 92 and the interface under documents/kept.py."""

import random
import unittest

from firstway.documents.edits import edited
from firstway.documents.kept import KeptPattern
from firstway.pattern import Pattern
from firstway.threads.passes import all_passes, view_of
from firstway.threads.runs import searches
from tests.document_oracle import SlowKept
from tests.helpers import small_patterns


def row_of_edits(chance, text, count):
    """Tuples of an edit and the text behind it, one behind another."""
    for _ in range(count):
        position = chance.choice((0, len(text), chance.randint(0, len(text))))
        inserted = "".join(chance.choice("aab_ \nc") for _ in range(chance.randint(0, 3)))
        edit = (position, chance.randint(0, min(4, len(text) - position)), inserted)
        text = edited(text, edit)
        yield edit, text


class KeptPatternTest(unittest.TestCase):

    def test_made_from_nothing(self):
        pattern = Pattern("(a)(?=(b))|(?<=b)c")
        kept = KeptPattern(pattern, "abcb")
        self.assertIs(kept.pattern, pattern)
        states, bits = all_passes(pattern.prepared, "abcb")
        self.assertEqual(kept.contents(), (states, bits, searches(pattern.prepared, view_of(pattern.prepared, "abcb"))))
        # Two looks at five positions, and searches from 0, 1 and 3 up to 2, 4 and 5.
        self.assertEqual(kept.effort, (10, 7))
        self.assertEqual(kept.found("abcb"), [(0, 1, ((0, 1), (1, 2))), (2, 3, (None, None))])
        self.assertEqual(KeptPattern(Pattern(""), "").effort, (0, 1))
        self.assertEqual(KeptPattern(Pattern("(?:(?=a)){0}"), "ab").effort, (3, 3))

    def test_effort_of_an_edit(self):
        for source, text, edit, effort in (
            ("(\\w)\\w*", "one two", (3, 1, ""), (0, 7)), ("(\\w)\\w*", "onetwo", (3, 0, " "), (0, 9)),
            ("a", "abab", (3, 1, "c"), (0, 5)), ("a", "abab", (0, 0, ""), (0, 2)), ("a", "", (0, 0, ""), (0, 1)),
            ("a", "abababab", (0, 0, "x"), (0, 3)), ("a", "abababab", (2, 2, ""), (0, 3)), ("a", "", (0, 0, "bb"), (0, 3)),
            ("(?=a)", "bbbb", (2, 1, "a"), (3, 5)), ("(?=a)", "abab", (4, 0, ""), (2, 2)),
        ):
            kept = KeptPattern(Pattern(source), text)
            kept.renew(edited(text, edit), edit)
            slow = SlowKept(Pattern(source), text)
            slow.renew(edited(text, edit), edit)
            self.assertEqual((kept.effort, slow.effort), (effort, effort), (source, text, edit))

    def test_searches_that_stay_and_move(self):
        pattern = Pattern("a")
        kept = KeptPattern(pattern, "xaxaxaxa")
        kept.renew("xaxaxxxaxa", (4, 0, "xx"))
        _, _, found = kept.contents()
        self.assertEqual([(begin, reach) for begin, _, reach in found], [(0, 3), (2, 5), (4, 9), (8, 11), (10, 11)])
        # Those from 2 and from 4 are made anew; what begins at 8 was kept from 6 and is moved.
        self.assertEqual(kept.effort, (0, 8))

    def test_any_row_of_edits(self):
        chance = random.Random(87)
        for pattern, text in small_patterns(87, 250, length=14):
            kept, slow = KeptPattern(pattern, text), SlowKept(pattern, text)
            self.assertEqual(kept.effort, slow.effort)
            for edit, new in row_of_edits(chance, text, 5):
                self.assertIsNone(kept.renew(new, edit))
                slow.renew(new, edit)
                self.assertEqual(kept.contents(), slow.contents())
                self.assertEqual(kept.effort, slow.effort, (pattern.printed, new, edit))
                self.assertEqual(kept.contents(), SlowKept(pattern, new).contents())
                self.assertEqual(kept.found(new), pattern.find_all(new))

    def test_returned_lists_are_new(self):
        kept = KeptPattern(Pattern("a(?=b)"), "abab")
        wanted = KeptPattern(Pattern("a(?=b)"), "abab").contents()
        states, bits, found = kept.contents()
        for row in (*states, *bits, states, bits, found):
            row.clear()
        kept.found("abab").clear()
        self.assertEqual(kept.contents(), wanted)
        self.assertEqual(len(kept.found("abab")), 2)

    def test_twins(self):
        pattern = Pattern("a(?=b)")
        kept = KeptPattern(pattern, "abab")
        kept.renew("abb", (2, 1, ""))
        other = kept.twin()
        self.assertIs(other.pattern, pattern)
        self.assertEqual((other.contents(), other.effort), (kept.contents(), kept.effort))
        before = other.contents(), other.effort
        kept.renew("ababb", (2, 0, "ab"))
        self.assertEqual((other.contents(), other.effort), before)
        other.renew("b", (0, 2, ""))
        self.assertEqual(kept.found("ababb"), [(0, 1, ()), (2, 3, ())])
        self.assertEqual(other.found("b"), [])
        self.assertEqual(other.contents(), KeptPattern(pattern, "b").contents())
