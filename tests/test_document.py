"""Points 84, 87 and 91 to 96 and the interface under documents/document.py."""

import random
import unittest

from firstway.documents.document import Document
from firstway.documents.edits import edited
from firstway.errors import (
    CountError, FlagsError, LengthError, PatternError, PositionError, TooManyPatterns, UnknownPattern,
)
from firstway.meaning.plain import plain_all
from firstway.pattern import Pattern
from tests.document_oracle import SlowKept
from tests.helpers import few_calls, small_patterns


def told(document):
    """All that a document tells."""
    return (
        document.text, document.work, document.next_number, document.undo_edits, document.redo_edits,
        [(number, document.pattern_of(number), document.matches(number), document.kept(number))
         for number in document.numbers()],
    )


class ExampleTest(unittest.TestCase):

    def test_examples(self):
        document = Document("one two")
        number = document.add("(\\w)\\w*")
        self.assertEqual(
            [document.matches(number), document.work],
            [[(0, 3, ((0, 1),)), (4, 7, ((4, 5),))], (0, 10)])
        self.assertIsNone(document.edit(3, 1, ""))
        self.assertEqual(
            [document.text, document.matches(number), document.work], ["onetwo", [(0, 6, ((0, 1),))], (0, 7)])
        self.assertIs(document.undo(), True)
        self.assertEqual(
            [document.text, document.work, document.undo_edits, document.redo_edits],
            ["one two", (0, 9), (), ((3, 1, ""),)])


class PatternsTest(unittest.TestCase):

    def test_a_new_document(self):
        document = Document("ab")
        self.assertEqual(told(document), ("ab", (0, 0), 0, (), (), []))
        Document("a" * 100)
        with self.assertRaises(LengthError):
            Document("a" * 101)

    def test_numbers(self):
        document = Document("ab")
        self.assertEqual([document.add("a"), document.add("b"), document.add("c")], [0, 1, 2])
        self.assertIsNone(document.remove(1))
        self.assertEqual((document.numbers(), document.next_number), ([0, 2], 3))
        self.assertEqual(document.add("x"), 3)
        self.assertIsNone(document.change(0, "b"))
        self.assertEqual(document.numbers(), [0, 2, 3])
        self.assertEqual([document.pattern_of(n).source for n in document.numbers()], ["b", "c", "x"])
        self.assertEqual(document.matches(0), [(1, 2, ())])
        document.remove(3)
        self.assertEqual((document.add("y"), document.numbers()), (4, [0, 2, 4]))

    def test_flags(self):
        document = Document("A\nb")
        number = document.add("a.b", flags="is")
        self.assertEqual(document.matches(number), [(0, 3, ())])
        document.change(number, "^B", flags="im")
        self.assertEqual(document.matches(number), [(2, 3, ())])
        document.change(number, "B")
        self.assertEqual((document.matches(number), document.pattern_of(number).flags), ([], ""))

    def test_four_patterns(self):
        document = Document("ab")
        for number in range(4):
            self.assertEqual(document.add("a"), number)
        before = told(document)
        with self.assertRaises(TooManyPatterns):
            document.add("a")
        with self.assertRaises(PatternError):
            document.add("(")
        with self.assertRaises(FlagsError):
            document.add("(", flags="x")
        self.assertEqual(told(document), before)
        document.change(3, "b")
        document.remove(0)
        self.assertEqual(document.add("b"), 4)
        with self.assertRaises(TooManyPatterns):
            document.add("a")

    def test_unknown_patterns(self):
        document = Document("ab")
        document.add("a(?=b)")
        document.add("b")
        document.remove(0)
        before = told(document)
        for number in (0, 2, -1):
            for call in (document.remove, document.pattern_of, document.matches, document.kept):
                with self.assertRaises(UnknownPattern):
                    call(number)
            with self.assertRaises(UnknownPattern):
                document.change(number, "(", flags="x")
        with self.assertRaises(FlagsError):
            document.change(1, "(", flags="x")
        with self.assertRaises(PatternError):
            document.change(1, "(")
        self.assertEqual(told(document), before)

    def test_work_of_patterns(self):
        document = Document("abc")
        document.add("a(?=b)|(?:(?<=c)){0}")
        self.assertEqual(document.work, (8, 2 + 3))
        document.add("x")
        self.assertEqual(document.work, (0, 4))
        document.change(0, "")
        self.assertEqual(document.work, (0, 4))
        document.change(0, "(?=(?=x))")
        self.assertEqual(document.work, (8, 4))
        document.remove(0)
        self.assertEqual(document.work, (0, 0))

    def test_what_is_kept(self):
        document = Document("abab")
        document.add("(a)(?=b)")
        self.assertEqual(document.kept(0), SlowKept(Pattern("(a)(?=b)"), "abab").contents())

    def test_returned_lists_are_new(self):
        document = Document("abab")
        document.add("a(?=b)")
        before = told(document)
        document.numbers().clear()
        document.matches(0).clear()
        states, bits, found = document.kept(0)
        for row in (*states, *bits, states, bits, found):
            row.clear()
        self.assertEqual(told(document), before)


class EditsTest(unittest.TestCase):

    def test_refused_edits_change_nothing(self):
        document = Document("a" * 99)
        document.add("a(?=a)")
        document.edit(0, 0, "b")
        document.undo()
        before = told(document)
        for edit, error in (
            ((-1, 0, ""), PositionError), ((100, 0, ""), PositionError), ((0, 100, ""), CountError),
            ((0, -1, ""), CountError), ((5, 0, "bb"), LengthError), ((100, -1, "b" * 200), PositionError),
            ((0, -1, "b" * 200), CountError),
        ):
            with self.assertRaises(error):
                document.edit(*edit)
            with self.assertRaises(error):
                document.edit_all([(0, 1, ""), (0, 0, "a"), edit])
            with self.assertRaises(error):
                document.edit_all([edit, (1000, 1000, "")])
            self.assertEqual(told(document), before)

    def test_work_is_summed_over_patterns(self):
        document = Document("bbbb")
        for source in ("(?=a)", "(?<=a)b", "a"):
            document.add(source)
        document.edit(2, 1, "a")
        slows = [SlowKept(Pattern(source), "bbbb") for source in ("(?=a)", "(?<=a)b", "a")]
        for slow in slows:
            slow.renew("bbab", (2, 1, "a"))
        self.assertEqual(document.work, (sum(s.effort[0] for s in slows), sum(s.effort[1] for s in slows)))
        self.assertEqual(document.work[0], 6)

    def test_no_patterns_no_work(self):
        document = Document("ab")
        document.edit(1, 0, "x")
        self.assertEqual((document.text, document.work), ("axb", (0, 0)))
        document.add("a")
        document.remove(0)
        document.undo()
        self.assertEqual((document.text, document.work), ("ab", (0, 0)))

    def test_an_edit_of_nothing(self):
        document = Document("ab")
        document.add("a")
        document.edit(1, 0, "")
        self.assertEqual((document.text, document.undo_edits, document.work), ("ab", ((1, 0, ""),), (0, 4)))
        document.undo()
        self.assertEqual((document.undo_edits, document.redo_edits), ((), ((1, 0, ""),)))

    def test_undo_and_redo(self):
        document = Document("abc")
        document.add("b|x")
        document.edit(1, 1, "xy")
        document.edit(0, 0, "b")
        self.assertEqual(document.undo_edits, ((1, 2, "b"), (0, 1, "")))
        self.assertTrue(document.undo())
        self.assertEqual((document.text, document.redo_edits), ("axyc", ((0, 0, "b"),)))
        self.assertTrue(document.undo())
        self.assertEqual((document.text, document.redo_edits), ("abc", ((0, 0, "b"), (1, 1, "xy"))))
        self.assertEqual((document.undo_edits, document.matches(0)), ((), [(1, 2, ())]))
        before = told(document)
        self.assertIs(document.undo(), False)
        self.assertEqual(told(document), before)
        self.assertIs(document.redo(), True)
        self.assertEqual((document.text, document.undo_edits), ("axyc", ((1, 2, "b"),)))
        document.redo()
        self.assertEqual((document.text, document.matches(0)), ("baxyc", [(0, 1, ()), (2, 3, ())]))
        before = told(document)
        self.assertIs(document.redo(), False)
        self.assertEqual(told(document), before)

    def test_a_new_edit_ends_redoing(self):
        document = Document("abc")
        document.edit(0, 1, "")
        document.undo()
        document.edit(2, 1, "")
        self.assertEqual(document.redo_edits, ())
        self.assertIs(document.redo(), False)
        self.assertEqual(document.text, "ab")

    def test_a_refused_edit_does_not_end_redoing(self):
        document = Document("abc")
        document.edit(0, 1, "")
        document.undo()
        with self.assertRaises(PositionError):
            document.edit(4, 0, "")
        self.assertEqual(document.redo_edits, ((0, 1, ""),))
        self.assertTrue(document.redo())

    def test_patterns_are_not_undone(self):
        document = Document("abc")
        document.edit(0, 1, "")
        document.add("a")
        document.undo()
        self.assertEqual((document.numbers(), document.matches(0)), ([0], [(0, 1, ())]))

    def test_several_edits(self):
        document = Document("abc")
        document.add("c")
        edits = [(3, 0, "de"), (4, 1, "c"), (0, 2, "")]
        self.assertIsNone(document.edit_all(edits))
        self.assertEqual((document.text, document.matches(0)), ("cdc", [(0, 1, ()), (2, 3, ())]))
        self.assertEqual(document.undo_edits, ((3, 2, ""), (4, 1, "e"), (0, 0, "ab")))
        single = Document("abc")
        single.add("c")
        work = (0, 0)
        for edit in edits:
            single.edit(*edit)
            work = (work[0] + single.work[0], work[1] + single.work[1])
        self.assertEqual(document.work, work)
        edits.clear()
        for text in ("abcdc", "abcde", "abc"):
            document.undo()
            self.assertEqual(document.text, text)

    def test_a_later_edit_fits_what_the_earlier_ones_leave(self):
        document = Document("")
        document.edit_all([(0, 0, "ab"), (2, 0, "c")])
        self.assertEqual(document.text, "abc")
        document.edit_all([(0, 3, ""), (0, 0, "a" * 100), (0, 1, "")])
        self.assertEqual(len(document.text), 99)
        with self.assertRaises(LengthError):
            document.edit_all([(0, 0, "xx"), (0, 50, "")])
        with self.assertRaises(PositionError):
            document.edit_all([(0, 99, ""), (1, 0, "x" * 101)])
        self.assertEqual(len(document.undo_edits), 5)

    def test_no_edits(self):
        document = Document("abc")
        document.add("c")
        document.edit(0, 0, "c")
        document.undo()
        before = told(document)
        self.assertIsNone(document.edit_all([]))
        self.assertEqual(told(document), (before[0], (0, 0), *before[2:]))


class ForksTest(unittest.TestCase):

    def test_forks(self):
        document = Document("abab")
        document.add("x")
        document.add("a(?=b)")
        document.remove(0)
        document.edit(0, 0, "b")
        document.edit(0, 0, "a")
        document.undo()
        other = document.fork()
        before = told(document)
        self.assertEqual(told(other), before)
        self.assertNotEqual(other.work, (0, 0))
        other.edit(1, 2, "")
        other.add("b")
        other.change(1, "b")
        other.undo()
        other.remove(2)
        self.assertEqual(told(document), before)
        again = document.fork()
        document.redo()
        document.edit(5, 0, "ab")
        document.change(1, "b")
        self.assertEqual(document.add("c"), 2)
        self.assertEqual(told(again), before)
        again.redo()
        self.assertEqual((again.text, again.matches(1)), ("ababab", [(0, 1, ()), (2, 3, ()), (4, 5, ())]))

    def test_restore(self):
        document = Document("abc")
        first, second = Pattern("b"), Pattern("c(?<=c)")
        patterns, undos, redos = [(2, first), (5, second)], [(0, 0, "x"), (1, 1, "")], [(0, 1, "")]
        self.assertIsNone(document.restore(patterns, 7, undos, redos))
        for given in (patterns, undos, redos):
            given.clear()
        self.assertEqual(
            (document.text, document.work, document.next_number, document.numbers()), ("abc", (0, 0), 7, [2, 5]))
        self.assertEqual((document.undo_edits, document.redo_edits), (((0, 0, "x"), (1, 1, "")), ((0, 1, ""),)))
        self.assertIs(document.pattern_of(5), second)
        self.assertEqual([document.matches(2), document.matches(5)], [[(1, 2, ())], [(2, 3, ())]])
        self.assertEqual(document.kept(5), SlowKept(second, "abc").contents())
        document.undo()
        self.assertEqual((document.text, document.matches(2)), ("ac", []))
        self.assertEqual((document.add("a"), document.numbers()), (7, [2, 5, 7]))


class EveryHistoryTest(unittest.TestCase):

    def act(self, chance, document):
        """Makes a change; returns the edits that it makes."""
        text = document.text
        pick = chance.random()
        if pick < 0.25:
            edits = document.undo_edits[-1:]
            self.assertIs(document.undo(), bool(edits))
            return edits
        if pick < 0.4:
            edits = document.redo_edits[-1:]
            self.assertIs(document.redo(), bool(edits))
            return edits
        edits = []
        for _ in range(chance.choice((1, 1, 2))):
            position = chance.choice((0, len(text), chance.randint(0, len(text))))
            inserted = "".join(chance.choice("aab_ \nc") for _ in range(chance.randint(0, 3)))
            edits.append((position, chance.randint(0, min(3, len(text) - position)), inserted))
            text = edited(text, edits[-1])
        document.edit_all(edits)
        return edits

    def test_every_history(self):
        chance = random.Random(84)
        made = list(small_patterns(84, 300, length=10))
        for k in range(0, len(made) - 2, 2):
            document = Document(made[k][1])
            slows = {}
            for pattern, _ in made[k:k + 2]:
                number = document.add(pattern.source, flags=pattern.flags)
                slows[number] = SlowKept(pattern, document.text)
                self.assertEqual(document.work, slows[number].effort)
            for _ in range(6):
                text, work = document.text, document.work
                edits = self.act(chance, document)
                wanted = (0, 0) if edits else work
                for edit in edits:
                    text = edited(text, edit)
                    for slow in slows.values():
                        slow.renew(text, edit)
                        wanted = (wanted[0] + slow.effort[0], wanted[1] + slow.effort[1])
                self.assertEqual((document.text, document.work), (text, wanted))
                for number, slow in slows.items():
                    self.assertEqual(document.kept(number), slow.contents())
                    self.assertEqual(document.kept(number), SlowKept(slow.pattern, text).contents())
                    self.assertEqual(document.matches(number), plain_all(slow.pattern.tree, text))

    def test_great_patterns(self):
        with few_calls():
            document = Document("ab" * 50)
            sources = ("(?:a?){48}(.?){50}b|(a)", "(?=(?<!a(?=b.{20}))(?:a|b){0,30})x?", "((a*)*)*c")
            for source in sources:
                document.add(source)
            document.edit(0, 1, "b")
            document.edit(50, 2, "xy")
            document.edit(99, 1, "a")
            document.undo()
            for number, source in enumerate(sources):
                self.assertEqual(document.matches(number), Pattern(source).find_all(document.text))
