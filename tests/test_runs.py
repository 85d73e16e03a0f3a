"""Points 53 to 56 and 59 and the interface under threads/runs.py."""

import unittest

from firstway.notation.reader import read_pattern
from firstway.threads.cores import Core, fresh, prepare
from firstway.threads.passes import view_of
from firstway.threads.runs import Run, advanced, begun, first_way, next_begin, search, searches
from firstway.threads.spots import Spot, View
from tests import machine_oracle
from tests.helpers import few_calls, small_trees
from tests.oracle import ways

NOTHING = ((), (), ())


def prepared_of(source):
    return prepare(read_pattern(source, "")[0])


def searched(source, text, position=0):
    """The search, without the registers of its candidate."""
    prepared = prepared_of(source)
    begin, candidate, reach = search(prepared, view_of(prepared, text), position)
    return begin, candidate and candidate[:2], reach


def searched_groups(source, text):
    """What the groups hold in the candidate of the search from 0."""
    prepared = prepared_of(source)
    _, candidate, _ = search(prepared, view_of(prepared, text), 0)
    return candidate[2][1]


class WatchedView(View):
    """A view that notes at which positions it was asked."""

    def __init__(self, text, rows):
        View.__init__(self, text, rows)
        self.asked = []

    def spot(self, position):
        self.asked.append(position)
        return View.spot(self, position)


class BegunTest(unittest.TestCase):

    def test_a_thread_begins_without_a_candidate(self):
        threads = [(0, 2, NOTHING)]
        self.assertEqual(begun(threads, None, 3, NOTHING), [(0, 2, NOTHING), (3, None, NOTHING)])
        self.assertEqual(begun([], None, 0, NOTHING), [(0, None, NOTHING)])
        self.assertEqual(threads, [(0, 2, NOTHING)])

    def test_none_begins_beside_a_candidate(self):
        threads = [(0, 2, NOTHING)]
        found = begun(threads, (0, 1, NOTHING), 3, NOTHING)
        self.assertEqual(found, threads)
        found.clear()
        self.assertEqual(threads, [(0, 2, NOTHING)])


class AdvancedTest(unittest.TestCase):

    def test_moves_that_can_be_made(self):
        core = prepared_of("[ab]c|a|b").core
        found = advanced(core, [(4, None, NOTHING)], None, Spot(4, None, 97, ()))
        self.assertEqual(found, ([(4, 0, NOTHING), (4, 2, NOTHING)], None))
        self.assertEqual(advanced(core, [(4, None, NOTHING)], None, Spot(4, None, 99, ())), ([], None))
        self.assertEqual(advanced(core, [(4, None, NOTHING)], None, Spot(4, None, None, ())), ([], None))

    def test_the_first_thread_with_a_number_stays(self):
        core = prepared_of("a*").core
        found = advanced(core, [(2, 0, NOTHING), (5, None, NOTHING)], None, Spot(6, 97, 97, ()))
        self.assertEqual(found, ([(2, 0, NOTHING)], (2, 6, NOTHING)))

    def test_the_first_move_with_a_number_stays(self):
        # Behind the x the set of the a is found in this iteration, and again in the next one.
        core = prepared_of("(x?(?:a|))*").core
        threads = [(0, 0, ((0,), (None,), ()))]
        found, _ = advanced(core, threads, None, Spot(1, 120, 97, ()))
        self.assertEqual(found, [(0, 1, ((0,), (None,), ()))])
        self.assertEqual(searched_groups("(x?(?:a|))*", "xa"), ((0, 2),))
        self.assertEqual(searched_groups("((?:a|)x??)*", "xa"), ((1, 2),))
        self.assertEqual(searched_groups("(a*?)*", "aaa"), ((2, 3),))
        self.assertEqual(searched_groups("((a??)*)*", "aaa"), ((0, 3), (2, 3)))

    def test_nothing_is_looked_at_behind_an_end(self):
        core = prepared_of("a*?").core
        threads = [(2, None, NOTHING), (3, None, NOTHING)]
        self.assertEqual(advanced(core, threads, None, Spot(6, 97, 97, ())), ([], (2, 6, NOTHING)))
        self.assertEqual(threads, [(2, None, NOTHING), (3, None, NOTHING)])

    def test_without_an_end_the_candidate_stays(self):
        core = prepared_of("ab").core
        found = advanced(core, [(1, 0, NOTHING)], (1, 1, NOTHING), Spot(2, 97, 98, ()))
        self.assertEqual(found, ([(1, 1, NOTHING)], (1, 1, NOTHING)))

    def test_registers_of_moves(self):
        core = prepared_of("(a)").core
        empty = ((None,), (None,), ())
        threads, _ = advanced(core, [(3, None, empty)], None, Spot(3, None, 97, ()))
        self.assertEqual(threads, [(3, 0, ((3,), (None,), ()))])
        found = advanced(core, threads, None, Spot(4, 97, None, ()))
        self.assertEqual(found, ([], (3, 4, ((3,), ((3, 4),), ()))))

    def test_backward_cores_take_the_character_before(self):
        core = Core(("set", 0, ((97, 98),)), True)
        found = advanced(core, [(1, None, NOTHING)], None, Spot(1, 97, 98, ()))
        self.assertEqual(found, ([(1, 0, NOTHING)], None))
        self.assertEqual(advanced(core, [(1, None, NOTHING)], None, Spot(1, 98, 97, ())), ([], None))


class RunTest(unittest.TestCase):

    def test_steps(self):
        core = prepared_of("ab*").core
        view = View("xabx", [])
        run = Run(core, NOTHING, 0, renewing=True)
        self.assertEqual((run.position, run.threads, run.candidate), (0, [], None))
        wanted = [
            (1, [], None), (2, [(1, 0, NOTHING)], None), (3, [(1, 1, NOTHING)], (1, 2, NOTHING)),
            (4, [], (1, 3, NOTHING)),
        ]
        for position, threads, candidate in wanted:
            self.assertFalse(run.over(4))
            self.assertIsNone(run.step(view.spot(run.position)))
            self.assertEqual((run.position, run.threads, run.candidate), (position, threads, candidate))
        self.assertTrue(run.over(4))

    def test_a_run_that_is_not_renewing_begins_once(self):
        run = Run(prepared_of("a").core, NOTHING, 1, renewing=False)
        self.assertFalse(run.over(3))
        run.step(View("bba", []).spot(1))
        self.assertEqual((run.position, run.threads, run.candidate), (2, [], None))
        self.assertTrue(run.over(3))

    def test_a_renewing_run_goes_on_without_threads(self):
        run = Run(prepared_of("a").core, NOTHING, 1, renewing=True)
        run.step(View("bba", []).spot(1))
        self.assertEqual((run.threads, run.over(3)), ([], False))

    def test_over_beyond_the_text(self):
        core = prepared_of("a").core
        for renewing in (True, False):
            self.assertTrue(Run(core, NOTHING, 4, renewing=renewing).over(3))
            self.assertTrue(Run(core, NOTHING, -1, renewing=renewing).over(3))
            self.assertFalse(Run(core, NOTHING, 3, renewing=renewing).over(3))
            self.assertFalse(Run(core, NOTHING, 0, renewing=renewing).over(0))

    def test_a_backward_run_goes_down(self):
        run = Run(Core(("star", ("set", 0, ((97, 98),)), True), True), NOTHING, 1, renewing=False)
        view = View("ab", [])
        run.step(view.spot(1))
        self.assertEqual((run.position, run.threads, run.candidate), (0, [(1, 0, NOTHING)], (1, 1, NOTHING)))
        run.step(view.spot(0))
        self.assertEqual((run.position, run.threads, run.candidate), (-1, [], (1, 0, NOTHING)))
        self.assertTrue(run.over(2))

    def test_begins_with_the_registers_that_it_was_given(self):
        registers = ((7,), ((1, 2),), ())
        run = Run(Core(("empty",), False), registers, 0, renewing=False)
        run.step(Spot(0, None, None, ()))
        self.assertEqual(run.candidate, (0, 0, registers))


class SearchTest(unittest.TestCase):

    def test_searches_by_hand(self):
        for source, text, position, wanted in (
            ("a", "bba", 0, (0, (2, 3), 4)), ("a", "bbab", 0, (0, (2, 3), 4)), ("a", "bb", 0, (0, None, 3)),
            ("a*", "aab", 0, (0, (0, 2), 3)), ("a*", "b", 1, (1, (1, 1), 2)), ("a*?", "aa", 0, (0, (0, 0), 1)),
            ("a|ab", "ab", 0, (0, (0, 1), 2)), ("ab|a", "aab", 0, (0, (0, 1), 2)), ("a.*b|a", "acc", 0, (0, (0, 1), 4)),
            ("", "", 0, (0, (0, 0), 1)), ("a", "", 0, (0, None, 1)), ("$", "ab", 0, (0, (2, 2), 3)),
        ):
            self.assertEqual(searched(source, text, position), wanted, (source, text))

    def test_behind_the_end_nothing_is_looked_at(self):
        prepared = prepared_of("a*")
        view = WatchedView("aa", [])
        self.assertEqual(search(prepared, view, 3), (3, None, 3))
        self.assertEqual(view.asked, [])

    def test_nothing_is_looked_at_behind_the_reach(self):
        for tree, text, prepared, rows in small_trees(56, 150):
            for position in range(len(text) + 1):
                view = WatchedView(text, rows)
                begin, _, reach = search(prepared, view, position)
                self.assertEqual((begin, view.asked), (position, list(range(position, reach))), (tree, text))

    def test_what_stands_behind_the_reach_changes_nothing(self):
        prepared = prepared_of("ab+c|a")
        wanted = search(prepared, View("xabbx", []), 0)
        self.assertEqual(wanted[2], 5)
        for text in ("xabbx", "xabbxc", "xabbxbbc", "xabbxab"):
            self.assertEqual(search(prepared, View(text, []), 0), wanted)

    def test_searches_word_by_word(self):
        for tree, text, prepared, rows in small_trees(55, 500):
            view = View(text, rows)
            for position in range(len(text) + 2):
                wanted = machine_oracle.search(prepared, view, position)
                self.assertEqual(search(prepared, view, position), wanted, (tree, text, position))
            self.assertEqual(searches(prepared, view), machine_oracle.searches(prepared, view))


class SearchesTest(unittest.TestCase):

    def test_next_begin(self):
        self.assertEqual(next_begin((2, 5, NOTHING)), 5)
        self.assertEqual(next_begin((2, 2, NOTHING)), 3)

    def test_one_behind_another(self):
        prepared = prepared_of("a*")
        found = searches(prepared, View("aab", []))
        self.assertEqual(found, [
            (0, (0, 2, NOTHING), 3), (2, (2, 2, NOTHING), 3), (3, (3, 3, NOTHING), 4), (4, None, 4),
        ])
        self.assertEqual(searches(prepared_of("c"), View("aab", [])), [(0, None, 4)])
        self.assertEqual(searches(prepared_of("a"), View("", [])), [(0, None, 1)])


class FirstWayTest(unittest.TestCase):

    def test_ways_by_hand(self):
        prepared = prepared_of("(a)(b)?")
        view = View("cab", [])
        self.assertEqual(first_way(prepared.core, fresh(prepared), view, 1), (3, ((1, 2), ((1, 2), (2, 3)), ())))
        self.assertIsNone(first_way(prepared.core, fresh(prepared), view, 0))
        self.assertIsNone(first_way(prepared.core, fresh(prepared), view, 3))

    def test_backwards(self):
        prepared = prepared_of("(?<=(a)b*)")
        view = View("cabb", [])
        found = first_way(prepared.looks[0].body, ((None,), (None,), (None,)), view, 4)
        self.assertEqual(found, (1, ((2,), ((1, 2),), (None,))))

    def test_first_ways_word_by_word(self):
        for tree, text, prepared, rows in small_trees(54, 400):
            view = View(text, rows)
            registers = fresh(prepared)
            for core in [prepared.core] + [look.body for look in prepared.looks]:
                for position in range(len(text) + 1):
                    wanted = machine_oracle.first_way(core, registers, view, position)
                    self.assertEqual(first_way(core, registers, view, position), wanted, (tree, text))

    def test_first_ways_of_the_meaning(self):
        for tree, text, prepared, rows in small_trees(57, 400):
            held = (None,) * prepared.group_total
            for position in range(len(text) + 1):
                found = first_way(prepared.core, fresh(prepared), View(text, rows), position)
                wanted = ways(tree, text, position, held, False)
                self.assertEqual(found and found[0], wanted[0][0] if wanted else None, (tree, text))


class GreatTest(unittest.TestCase):

    def test_great_patterns_in_long_texts(self):
        with few_calls():
            for source, wanted in (
                ("(?:a?){50}a{50}", [(0, 100), (100, None)]),
                ("(?:(?:a?){50}){2}", [(0, 100), (100, 100)]),
                ("((((((((a*)*)*)*)*)*)*)*)*", [(0, 100), (100, 100)]),
            ):
                prepared = prepared_of(source)
                found = [candidate for _, candidate, _ in searches(prepared, View("a" * 100, []))]
                self.assertEqual(found[0][:2], wanted[0])
                self.assertEqual(found[1] and found[1][1], wanted[1][1])

    def test_many_searches_to_the_end(self):
        prepared = prepared_of("(?:a?){48}(?:.?){49}b|a")
        found = searches(prepared, View("a" * 100, []))
        self.assertEqual([candidate[:2] for _, candidate, _ in found[:-1]], [(i, i + 1) for i in range(100)])
        self.assertEqual([reach for _, _, reach in found[:2]], [98, 99])
