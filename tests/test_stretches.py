"""Points 88 to 90 and the interface under documents/stretches.py."""

import random
import unittest

from firstway.documents.edits import edited
from firstway.documents.stretches import moved_search, renew_look
from firstway.pattern import Pattern
from firstway.threads.passes import all_passes
from firstway.threads.runs import searches
from firstway.threads.spots import View
from tests import document_oracle, machine_oracle
from tests.helpers import few_calls, small_patterns


def fitted(row, edit, new_length):
    """A row by position of the old text, with rubbish at the changed positions of the new one."""
    changed = range(edit[0], edit[0] + len(edit[2]) + 1)
    return ["anything" if q in changed else row[document_oracle.position_before(edit, q)] for q in range(new_length + 1)]


class RenewLookTest(unittest.TestCase):

    def turn(self, source, text, edit, stretch=None):
        """The stretch and the number of visited positions behind an edit, for the first look."""
        prepared = Pattern(source).prepared
        new = edited(text, edit)
        states, bits = all_passes(prepared, text)
        new_states, new_bits = all_passes(prepared, new)
        rows = [fitted(row, edit, len(new)) for row in (states[0], bits[0])]
        stretch = stretch or (edit[0], edit[0] + len(edit[2]))
        found = renew_look(prepared.looks[0], View(new, []), rows[0], rows[1], stretch)
        self.assertEqual(found[:2], (new_states[0], new_bits[0]))
        return found[2:]

    def test_lookahead(self):
        # Only the position ahead of the edit has another state.
        self.assertEqual(self.turn("(?=a)", "bbbbbb", (3, 1, "a")), ((2, 5), 3))
        self.assertEqual(self.turn("(?=aa)", "bbbbbb", (3, 1, "a")), ((2, 5), 3))
        self.assertEqual(self.turn("(?=a)", "bbbbbb", (3, 1, "b")), ((2, 5), 3))
        self.assertEqual(self.turn("(?=a.*b)", "ccccc-", (5, 1, "b")), ((0, 6), 7))
        self.assertEqual(self.turn("(?=a.*b)", "ccccbc", (5, 1, "b")), ((4, 6), 3))

    def test_lookbehind(self):
        self.assertEqual(self.turn("(?<=a)", "bbbbbb", (3, 1, "a")), ((2, 5), 3))
        self.assertEqual(self.turn("(?<=ab)", "bbbbbb", (2, 1, "a")), ((1, 4), 3))
        self.assertEqual(self.turn("(?<=a.*)", "bbbbbb", (0, 1, "a")), ((0, 6), 7))
        self.assertEqual(self.turn("(?<=a.*)", "abbbbb", (2, 1, "a")), ((1, 4), 3))

    def test_at_the_ends(self):
        self.assertEqual(self.turn("(?=a)", "", (0, 0, "")), ((0, 0), 1))
        self.assertEqual(self.turn("(?<=a)", "", (0, 0, "aa")), ((0, 2), 3))
        self.assertEqual(self.turn("(?=a)", "aaa", (0, 3, "")), ((0, 0), 1))
        self.assertEqual(self.turn("(?=a)", "aaa", (3, 0, "")), ((2, 3), 2))
        self.assertEqual(self.turn("(?<=a)", "aaa", (0, 0, "")), ((0, 1), 2))

    def test_a_greater_stretch(self):
        self.assertEqual(self.turn("(?=a)", "bbbbbb", (3, 1, "b"), (1, 5)), ((0, 6), 6))
        self.assertEqual(self.turn("(?<=a)", "bbbbbb", (3, 1, "b"), (0, 6)), ((0, 6), 7))

    def test_arguments_stay(self):
        prepared = Pattern("(?=a)").prepared
        states, bits = all_passes(prepared, "aba")
        states, bits = states[0], bits[0]
        kept = list(states), list(bits)
        view = View("bba", [])
        renew_look(prepared.looks[0], view, states, bits, (0, 1))
        self.assertEqual((states, bits, view.rows), (*kept, []))

    def test_word_by_word(self):
        chance = random.Random(88)
        count = 0
        for pattern, text in small_patterns(88, 700, length=12):
            position = chance.randint(0, len(text))
            inserted = "".join(chance.choice("ab_ \nc") for _ in range(chance.randint(0, 3)))
            edit = (position, chance.randint(0, min(3, len(text) - position)), inserted)
            new = edited(text, edit)
            prepared = pattern.prepared
            states, bits = all_passes(prepared, text)
            new_states, new_bits = all_passes(prepared, new)
            stretch = (position, position + len(inserted))
            for number, look in enumerate(prepared.looks):
                count += 1
                view = View(new, new_bits[:number])
                rows = [fitted(row, edit, len(new)) for row in (states[number], bits[number])]
                found = renew_look(look, view, *rows, stretch)
                slow = document_oracle.turn(
                    look, view, dict(enumerate(rows[0])), dict(enumerate(rows[1])), range(stretch[0], stretch[1] + 1))
                positions = range(len(new) + 1)
                self.assertEqual(found, (
                    [slow[0][p] for p in positions], [slow[1][p] for p in positions],
                    (slow[2][0], slow[2][-1]), slow[3]))
                self.assertEqual(found[:2], (new_states[number], new_bits[number]))
                stretch = found[2]
        self.assertGreater(count, 200)

    def test_great_looks(self):
        with few_calls():
            self.assertEqual(self.turn("(?=(?:a?b?){48})", "ab" * 50, (50, 2, "b"))[1], 3)


class MovedSearchTest(unittest.TestCase):

    def test_by_hand(self):
        self.assertEqual(moved_search((3, None, 7), 2), (5, None, 9))
        registers = ((4, None, 0), ((4, 5), None, (0, 0)), (None, 6))
        moved = ((1, None, -3), ((1, 2), None, (-3, -3)), (None, 3))
        self.assertEqual(moved_search((4, (4, 6, registers), 9), -3), (1, (1, 3, moved), 6))
        self.assertEqual(moved_search((1, (1, 1, ((), (), ())), 3), 0), (1, (1, 1, ((), (), ())), 3))

    def test_searches_of_a_moved_text(self):
        pattern = Pattern("(a)(?=(b))|(c)")
        prepared = pattern.prepared
        old = searches(prepared, machine_oracle.plain_view(pattern.tree, "abxca"))
        new = searches(prepared, machine_oracle.plain_view(pattern.tree, "---abxca"))
        self.assertEqual([moved_search(found, 3) for found in old][1:], new[1:])
        begin, candidate, reach = moved_search(old[0], 3)
        self.assertEqual((begin, candidate, reach), (3, *new[0][1:]))
