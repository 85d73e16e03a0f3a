"""Points 111 to 114 and the interface under saving/saving.py."""

import random
import unittest

from firstway.documents.document import Document
from firstway.documents.edits import edited
from firstway.errors import FirstwayError, SavedTextError
from firstway.pattern import Pattern
from firstway.saving.saving import load, save
from firstway.saving.words import write_number, write_text
from tests.helpers import small_patterns
from tests.test_document import told

HEAD = "firstway 1\n"


def written(text="ab", next_number=0, patterns=(), undos=(), redos=()):
    """A saved text from its parts."""
    whole = HEAD + write_text(text) + write_number(next_number) + write_number(len(patterns))
    for number, source in patterns:
        whole += write_number(number) + write_text(source)
    for edits in (undos, redos):
        whole += write_number(len(edits))
        for position, removed, inserted in edits:
            whole += write_number(position) + write_number(removed) + write_text(inserted)
    return whole


def histories(seed, count):
    """Documents behind some changes."""
    chance = random.Random(seed)
    made = list(small_patterns(seed, 3 * count))
    for k in range(0, len(made) - 3, 3):
        document = Document(made[k][1])
        for pattern, _ in made[k:k + chance.randint(0, 3)]:
            document.add(pattern.source, flags=pattern.flags)
        if document.numbers() and chance.random() < 0.3:
            document.remove(chance.choice(document.numbers()))
        for _ in range(chance.randint(0, 5)):
            pick = chance.random()
            if pick < 0.3:
                document.undo()
            elif pick < 0.4:
                document.redo()
            else:
                position = chance.randint(0, len(document.text))
                removed = chance.randint(0, min(2, len(document.text) - position))
                document.edit(position, removed, "".join(chance.choice("ab;1\n") for _ in range(chance.randint(0, 3))))
        yield document


class SaveTest(unittest.TestCase):

    def test_example(self):
        document = Document("ab")
        document.add("[a]+")
        document.edit(2, 0, "c")
        self.assertEqual(save(document), "firstway 1\n3;abc1;1;0;2;a+1;2;1;0;0;")

    def test_saved(self):
        document = Document("")
        self.assertEqual(save(document), HEAD + "0;0;0;0;0;")
        document.edit(0, 0, "a;b")
        document.edit(1, 1, "")
        document.undo()
        self.assertEqual(save(document), HEAD + "3;a;b0;0;1;0;3;0;1;1;1;0;")
        document.add("A|$", flags="i")
        document.add("x")
        document.add("(?<y>\\t)")
        document.remove(1)
        self.assertEqual(save(document), HEAD + "3;a;b3;2;0;7;[Aa]|\\z2;10;(?<y>\\x09)1;0;3;0;1;1;1;0;")

    def test_saving_changes_nothing(self):
        document = Document("ab")
        document.add("a")
        document.edit(0, 0, "a")
        before = told(document)
        save(document)
        self.assertEqual(told(document), before)


class LoadTest(unittest.TestCase):

    def test_loaded(self):
        saved = written("abc", 7, [(2, "(?<x>b)$"), (5, "[a-c]")], [(0, 0, "x"), (1, 1, "")], [(0, 1, "yy")])
        document = load(saved)
        self.assertEqual(
            (document.text, document.work, document.next_number, document.numbers()), ("abc", (0, 0), 7, [2, 5]))
        self.assertEqual((document.undo_edits, document.redo_edits), (((0, 0, "x"), (1, 1, "")), ((0, 1, "yy"),)))
        pattern = document.pattern_of(2)
        self.assertEqual((pattern.source, pattern.flags, pattern.names), ("(?<x>b)$", "m", ("x",)))
        self.assertEqual(document.matches(5), [(0, 1, ()), (1, 2, ()), (2, 3, ())])
        self.assertEqual(save(document), saved)
        document.undo()
        document.undo()
        self.assertEqual(document.text, "xac")
        self.assertEqual(document.add("x"), 7)

    def test_every_document(self):
        for document in histories(113, 150):
            saved = save(document)
            loaded = load(saved)
            self.assertEqual(save(loaded), saved)
            self.assertEqual(loaded.work, (0, 0))
            wanted, found = told(document), told(loaded)
            self.assertEqual((wanted[0], *wanted[2:5]), (found[0], *found[2:5]))
            self.assertEqual(document.numbers(), loaded.numbers())
            for number in document.numbers():
                self.assertEqual(loaded.matches(number), document.matches(number))
                self.assertEqual(loaded.kept(number), document.kept(number))
                self.assertEqual(loaded.pattern_of(number).tree, document.pattern_of(number).tree)
                self.assertEqual(loaded.pattern_of(number).names, document.pattern_of(number).names)
                self.assertEqual(loaded.pattern_of(number).source, document.pattern_of(number).printed)
            while document.undo():
                self.assertTrue(loaded.undo())
                self.assertEqual((loaded.text, loaded.work), (document.text, document.work))
            self.assertFalse(loaded.undo())
            while document.redo():
                self.assertTrue(loaded.redo())
                self.assertEqual(loaded.text, document.text)
            self.assertFalse(loaded.redo())

    def test_long_histories(self):
        document = Document("a" * 100)
        document.add("a{50}")
        for k in range(300):
            document.edit(k % 100, 1, "b")
        saved = save(document)
        self.assertGreater(len(saved), 2000)
        self.assertEqual(save(load(saved)), saved)


class RefusedTest(unittest.TestCase):

    def refused(self, saved):
        with self.assertRaises(SavedTextError, msg=saved):
            load(saved)

    def test_heads_and_ends(self):
        good = written("ab", 1, [(0, "a")])
        load(good)
        for saved in (
            "", good[1:], "Firstway 1\n" + good[11:], "firstway 2\n" + good[11:], "firstway 1" + good[11:],
            good + "x", good + "0;", good + "\n", good + " ", " " + good, HEAD,
        ):
            self.refused(saved)

    def test_lengths(self):
        load(written("a" * 100))
        self.refused(written("a" * 101))

    def test_patterns(self):
        four = [(0, "a"), (1, "b"), (2, "c"), (3, "d")]
        load(written("ab", 4, four))
        load(written("ab", 10, [(3, ""), (9, "")]))
        for next_number, patterns in (
            (5, [*four, (4, "e")]), (3, four), (0, [(0, "a")]), (1, [(1, "a")]), (9, [(3, "a"), (3, "b")]),
            (9, [(3, "a"), (2, "b")]), (9, [(3, "a"), (9, "b")]),
        ):
            self.refused(written("ab", next_number, patterns))

    def test_sources_of_patterns(self):
        for source in ("(", "a**", "[a]", "a{1,1}", "a{,}", "(?:a)", "[ab]", "\\n", "\\d\\x41", "[b-a]", "]", "a{51}", "^*^**"):
            self.refused(written("ab", 1, [(0, source)]))
        for source in ("^a$", "\\A", "a{2}?", "[a-b]", "", "(?<n>a)(?<m>b)", "\\x0a", "(?=a)(?<!b)"):
            load(written("ab", 1, [(0, source)]))

    def test_edits(self):
        for edits in ([], [(0, 0, "")], [(2, 0, "x")], [(0, 2, "")], [(0, 1, ""), (3, 0, ""), (0, 0, "x")],
                      [(0, 0, "x" * 98)], [(100, 0, ""), (0, 0, "x" * 98)]):
            load(written("ab", undos=edits))
            load(written("ab", redos=edits))
            load(written("ab", undos=edits, redos=edits))
        for edits in ([(3, 0, "")], [(0, 3, "")], [(2, 1, "")], [(0, 0, "x" * 99)], [(0, 0, "x"), (3, 0, "")],
                      [(2, 0, ""), (0, 1, "")], [(101, 0, ""), (0, 0, "x" * 98)], [(0, 0, "x"), (0, 0, "x" * 98)]):
            self.refused(written("ab", undos=edits))
            self.refused(written("ab", redos=edits))
            self.refused(written("ab", undos=[(0, 0, "")], redos=edits))

    def test_numbers(self):
        self.assertEqual(load(HEAD + "0;999999999;0;0;0;").next_number, 999999999)
        for saved in (
            HEAD + "0;1000000000;0;0;0;", HEAD + "0;00;0;0;0;", HEAD + "00;0;0;0;0;", HEAD + "0;0;00;0;0;",
            HEAD + "0;0;0;0;", HEAD + "0;0;0;0;0", HEAD + "0;0;0;0;00;", HEAD + "0;0;1;0;0;", HEAD + "0;0;0;1;0;0;",
            HEAD + "0;-1;0;0;0;", HEAD + "0; 0;0;0;0;", HEAD + "0;0;999999999;0;0;", HEAD + "0;0;0;999999999;0;",
            HEAD + "1000000000;0;0;0;0;", HEAD + "0;0;0;0;1;00;0;0;",
        ):
            self.refused(saved)

    def test_cut_off_anywhere(self):
        for document in histories(111, 20):
            saved = save(document)
            for end in range(len(saved)):
                self.refused(saved[:end])
            self.refused(saved + saved[-1])

    def test_changed_anywhere(self):
        chance = random.Random(114)
        for document in histories(112, 60):
            saved = save(document)
            for at in range(len(saved)):
                other = chance.choice("0129;ab(*\n x")
                changed = saved[:at] + other + saved[at + chance.randint(0, 1):]
                try:
                    loaded = load(changed)
                except SavedTextError:
                    continue
                # What was loaded all the same is a saved text, and all of it holds.
                self.assertEqual(save(loaded), changed)
                text = loaded.text
                for edit in reversed(loaded.undo_edits):
                    text = edited(text, edit)
                for number in loaded.numbers():
                    self.assertEqual(loaded.matches(number), Pattern(loaded.pattern_of(number).source, flags="m").find_all(loaded.text))

    def test_no_other_error(self):
        chance = random.Random(1)
        for _ in range(3000):
            saved = HEAD + "".join(chance.choice("0;0;1;2;a") for _ in range(chance.randint(0, 16)))
            try:
                self.assertEqual(save(load(saved)), saved)
            except FirstwayError as error:
                self.assertIs(type(error), SavedTextError)
