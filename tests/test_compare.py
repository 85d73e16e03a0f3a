"""Points 115 to 124 and the interface under comparing/."""

import random
import unittest
from itertools import product

from firstway.comparing.compare import compare
from firstway.comparing.guesses import guessable, left_with
from firstway.comparing.kinds import representatives
from firstway.errors import CountError, GroupInLook, GroupsDiffer, PatternError, TooManyStates
from firstway.meaning.plain import plain_search
from firstway.notation.printer import print_pattern
from firstway.pattern import Pattern
from firstway.simpler.rules import simplest
from tests import compare_oracle
from tests.helpers import few_calls, small_patterns


def neighbours(seed, count, looks):
    """Pairs of patterns, many of them nearly the same."""
    chance = random.Random(seed)
    made = [pattern for pattern, _ in small_patterns(seed, count, looks=looks) if len(pattern.printed) < 40]
    extra = ("", "", "a", "b", "?", "*", "|", "(?=a)", "(?<=a)", "(?!ab)", "(?<!b)", ".*", "c", "()")
    for pattern in made:
        pick = chance.random()
        if pick < 0.1:
            yield pattern, chance.choice(made)
        elif pick < 0.25:
            yield pattern, Pattern(print_pattern(simplest(pattern.tree), pattern.names), flags="m")
        else:
            source, at = pattern.printed, chance.randint(0, len(pattern.printed))
            try:
                yield pattern, Pattern(source[:at] + chance.choice(extra) + source[at + chance.randint(0, 1):], flags="m")
            except PatternError:
                yield pattern, pattern


class RepresentativesTest(unittest.TestCase):

    def test_by_hand(self):
        for first, other, wanted in (
            ("", "", [9, 10, 48]), ("a", "", [9, 10, 48, 97]), ("a", "[a-c]", [9, 10, 48, 97, 98]),
            ("[a-c]", "b", [9, 10, 48, 97, 98]), (".", "\\s", [9, 10, 33, 48]), ("(?=a)", "(?<!-)", [9, 10, 45, 48, 97]),
            ("a{0}", "", [9, 10, 48]), ("(?:(?=a)){0}", "", [9, 10, 48, 97]), ("(?=(?<=a))", "", [9, 10, 48, 97]),
            ("\\x00", "[\\x00-\\x20]", [9, 10, 33, 48]), ("[ac]", "", [9, 10, 48, 97]), ("[^]", "", [9, 10, 48]),
            ("[ac]", "[bc]", [9, 10, 48, 97, 98, 99]),
        ):
            self.assertEqual(representatives(Pattern(first), Pattern(other)), wanted, (first, other))

    def test_word_by_word(self):
        made = [pattern for pattern, _ in small_patterns(116, 300)]
        for first, other in zip(made, made[1:]):
            self.assertEqual(representatives(first, other), compare_oracle.representatives(first, other))


class GuessesTest(unittest.TestCase):

    def test_guessable(self):
        for source, limit, wanted in (
            ("(?=a)", 2, [(), (0,)]), ("(?=ab)", 3, [(), (0, 1), (1,)]), ("(?!a*b)", 3, [(), (0, 1), (1,)]),
            ("(?=)", 1, [()]), ("(?=[])", 2, [(), (0,)]), ("(?=a$)", 3, [(), (0,)]), ("(?=a\\b)", 3, [(), (0,)]),
        ):
            prepared = Pattern(source).prepared
            codes = representatives(Pattern(source), Pattern(""))
            self.assertEqual(guessable(prepared, 0, codes, limit), wanted, source)
            self.assertEqual(guessable(prepared, 0, codes, limit), compare_oracle.guessable(prepared, 0, codes))

    def test_limits(self):
        codes = [9, 97, 98]
        prepared = Pattern("(?=ab)").prepared
        self.assertEqual(len(guessable(prepared, 0, codes, 3)), 3)
        for limit in (1, 2):
            with self.assertRaises(TooManyStates):
                guessable(prepared, 0, codes, limit)

    def test_other_codes_are_not_looked_at(self):
        prepared = Pattern("(?=ab)").prepared
        self.assertEqual(guessable(prepared, 0, [97], 5), [(), (1,)])
        self.assertEqual(guessable(prepared, 0, [], 5), [(), (1,)])

    def test_word_by_word(self):
        count = 0
        for pattern, _ in small_patterns(119, 350):
            codes = representatives(pattern, pattern)
            for number, look in enumerate(pattern.prepared.looks):
                if look.ahead:
                    wanted = compare_oracle.guessable(pattern.prepared, number, codes)
                    self.assertEqual(guessable(pattern.prepared, number, codes, 500), wanted, pattern.printed)
                    self.assertEqual(guessable(pattern.prepared, number, codes, len(wanted)), wanted)
                    if len(wanted) > 1:
                        with self.assertRaises(TooManyStates):
                            guessable(pattern.prepared, number, codes, len(wanted) - 1)
                    count += 1
        self.assertGreater(count, 50)

    def test_leaving_with_a_lookbehind(self):
        prepared = Pattern("(?<=a)").prepared
        self.assertEqual(left_with(prepared, ((),), None, 97, ((),)), [((False,), ((0,),))])
        self.assertEqual(left_with(prepared, ((0,),), 97, 98, ((),)), [((True,), ((0,),))])
        self.assertEqual(left_with(prepared, ((0,),), 98, None, ((),)), [((False,), ((0,),))])

    def test_leaving_with_a_lookahead(self):
        prepared = Pattern("(?=ab)").prepared
        guesses = ([(), (0, 1), (1,)],)
        # Behind an "a" only what the next position can begin with is open.
        found = left_with(prepared, (None,), None, 97, guesses)
        self.assertEqual(sorted(found), [((False,), ((),)), ((False,), ((1,),)), ((True,), ((0, 1),))])
        # Behind an "a" with a "b" to come, a "c" does not come.
        self.assertEqual(left_with(prepared, ((0, 1),), 97, 99, guesses), [])
        self.assertEqual(sorted(left_with(prepared, ((0, 1),), 97, 98, guesses)), [((False,), ((0, 1),)), ((False,), ((1,),))])
        found = left_with(prepared, ((0, 1),), 97, 98, ([(1,), ()],))
        self.assertEqual(found, left_with(prepared, ((0, 1),), 97, 98, ([(1,)],)))
        self.assertEqual(left_with(prepared, ((1,),), 97, None, ([()],)), [((False,), ((),))])
        self.assertEqual(left_with(prepared, ((0, 1),), 97, None, ([()],)), [])

    def test_leaving_without_looks(self):
        self.assertEqual(left_with(Pattern("a").prepared, (), None, 97, ()), [((), ())])

    def test_leaving_word_by_word(self):
        chance = random.Random(118)
        count = 0
        for pattern, _ in small_patterns(118, 400):
            prepared = pattern.prepared
            if not prepared.looks:
                continue
            codes = representatives(pattern, pattern)
            guesses = tuple(
                compare_oracle.guessable(prepared, number, codes) if look.ahead else []
                for number, look in enumerate(prepared.looks))
            entries = tuple(None if look.ahead else () for look in prepared.looks)
            before = None
            for _ in range(4):
                after = chance.choice(codes)
                wanted = compare_oracle.left_with(prepared, entries, before, after, guesses)
                found = left_with(prepared, entries, before, after, guesses)
                self.assertEqual(sorted(found), sorted(wanted), (pattern.printed, entries, before, after))
                at_end = ([()],) * len(entries)
                self.assertEqual(
                    left_with(prepared, entries, before, None, at_end),
                    compare_oracle.left_with(prepared, entries, before, None, at_end))
                if not found:
                    break
                entries, before = chance.choice(found)[1], after
                count += 1
        self.assertGreater(count, 200)


class CompareTest(unittest.TestCase):

    def answer(self, first, other, limit=500):
        return compare(Pattern(first), Pattern(other), limit=limit)

    def test_examples(self):
        self.assertEqual(self.answer("a|ab", "ab?", 100), "ab")
        self.assertIsNone(self.answer("(?:a|b)*", "[ab]*", 100))

    def test_by_hand(self):
        for first, other, wanted in (
            ("a", "a", None), ("a", "b", "a"), ("", "a", ""), ("a*", "a*?", "a"), ("a+", "a*", ""), ("a", "[ab]", "b"),
            ("(a)|b", "a|(b)", "a"), ("(a)(b)?", "(a)(b)*", "abb"), ("(a|b)*", "(?:(a)|b)*", "b"), ("(?:(a)|b)*", "(?:(a)?b?)*", "ab"), ("(?<x>a)", "(?<y>a)", None),
            ("a(?=b)", "a(?!b)", "a"), ("a(?=b)", "a(?=bc|b)", None), ("a(?=bc)", "a(?=b)", "ab"), ("(?<=a)b", "\\Bb", "0b"),
            ("(?<=a)b", "b", "b"), ("a$", "a\\z", None), ("a(?=\\n)|a\\z", "a(?=\\s)|a\\z", "a\t"), ("\\bb", "b", "0b"),
            ("(?!a).", "[^a\\n\\x0d]", None), ("\\t", "\\n", "\t"), ("[]", "\\x00", None), ("[]", "\\x25", None), ("a.", "a[^]", "a\n"),
            ("(?:ab){2}", "abab", None), ("a{3}", "a{4}", "aaa"), ("(?<=a{3})b", "(?<=a{4})b", "aaab"), ("(?=(?=a)b)", "[]", None),
        ):
            self.assertEqual(self.answer(first, other), wanted, (first, other))
            self.assertEqual(self.answer(other, first), wanted, (other, first))

    def test_the_first_match_alone_counts(self):
        self.assertIsNone(self.answer("\\Aa|\\Bc", "\\Aa|\\Bc|[]"))
        self.assertEqual(self.answer("\\Aa|b", "\\Aa|b(?!b)"), "bb")
        # Behind the first match nothing is searched.
        self.assertIsNone(self.answer("[^](?<=\\A.|\\A\\s)|b", "[^](?<=\\A[^])"))

    def test_long_least_texts(self):
        self.assertEqual(self.answer("a{0,40}b", "a*b"), "a" * 41 + "b")
        self.assertEqual(self.answer("(?=a{4}b)", "(?=a{4})"), "a" * 4)

    def test_limits(self):
        pattern = Pattern("a")
        for limit in (0, 501, -1):
            with self.assertRaises(CountError):
                compare(pattern, pattern, limit=limit)
            with self.assertRaises(CountError):
                compare(pattern, Pattern("(?=(a))"), limit=limit)
        self.assertIsNone(compare(pattern, pattern, limit=500))
        # The empty text tells these apart, and it is in the first level.
        self.assertEqual(self.answer("a", "", 1), "")
        with self.assertRaises(TooManyStates):
            self.answer("a", "a", 1)

    def test_errors_in_order(self):
        for first, other, error in (
            ("(a)", "a", GroupsDiffer), ("(?=(a))", "a", GroupsDiffer), ("(?=(a))", "(a)", GroupInLook),
            ("(a)", "(?<!(a))", GroupInLook), ("(?=(a))", "(?=(a))", GroupInLook), ("(?:(?=(a))){0}", "(a)", GroupInLook),
            ("(a)(?=(?=(b)))", "(a)(b)", GroupInLook), ("(?=(a{20}))", "(a)", GroupInLook),
        ):
            with self.assertRaises(error):
                self.answer(first, other, 1)
        for first, other in (("(?=aaaa)", "a"), ("a", "(?=aaaa)")):
            # Four states can be guessed and more, which is asked before the first level.
            with self.assertRaises(TooManyStates):
                self.answer(first, other + "|", 4)
        with self.assertRaises(TypeError):
            compare(Pattern("a"), Pattern("a"), 5)

    def test_guesses_come_before_the_first_level(self):
        self.assertEqual(self.answer("(?=ab)", "", 3), "")
        with self.assertRaises(TooManyStates):
            self.answer("(?=ab)", "", 2)
        with self.assertRaises(TooManyStates):
            self.answer("", "(?:(?=ab)){0}a", 2)

    def test_exactly_at_the_limit(self):
        count = 0
        for first, other in neighbours(123, 160, 2):
            try:
                wanted, totals = compare_oracle.compare(first, other, 60)
                guesses = [
                    len(compare_oracle.guessable(pattern.prepared, number, representatives(first, other)))
                    for pattern in (first, other) for number, look in enumerate(pattern.prepared.looks) if look.ahead]
                found = compare(first, other, limit=60)
            except (compare_oracle.NoAnswer, GroupsDiffer, GroupInLook):
                continue
            self.assertEqual(found, wanted)
            least = max([totals[-1], *guesses])
            for limit in (least, least + 1, 500):
                self.assertEqual(compare(first, other, limit=limit), wanted)
            if least > 1:
                with self.assertRaises(TooManyStates):
                    compare(first, other, limit=least - 1)
            count += 1
        self.assertGreater(count, 60)

    def test_word_by_word(self):
        answers = {}
        for looks in (0, 1, 3):
            for first, other in neighbours(115 + looks, 180, looks):
                if len(first.names) != len(other.names):
                    with self.assertRaises(GroupsDiffer):
                        compare(first, other, limit=80)
                    continue
                if any(look.groups for pattern in (first, other) for look in pattern.prepared.looks):
                    with self.assertRaises(GroupInLook):
                        compare(first, other, limit=80)
                    continue
                try:
                    wanted, _ = compare_oracle.compare(first, other, 80)
                except compare_oracle.NoAnswer:
                    with self.assertRaises(TooManyStates):
                        compare(first, other, limit=80)
                    continue
                found = compare(first, other, limit=80)
                self.assertEqual(found, wanted, (first.printed, other.printed))
                self.check_with_texts(first, other, found)
                kind = None if found is None else len(found)
                answers[kind] = answers.get(kind, 0) + 1
        self.assertTrue(all(answers.get(kind, 0) > 10 for kind in (None, 0, 1, 2)), answers)

    def check_with_texts(self, first, other, answer):
        """The answer, by searching in all texts of at most two or three characters."""
        codes = representatives(first, other)
        for length in range(4 if len(codes) < 7 else 3):
            for signs in product(codes, repeat=length):
                text = "".join(map(chr, signs))
                if plain_search(first.tree, text, 0) != plain_search(other.tree, text, 0):
                    self.assertEqual(answer, text, (first.printed, other.printed))
                    return
        if answer is not None:
            self.assertNotEqual(plain_search(first.tree, answer, 0), plain_search(other.tree, answer, 0))

    def test_with_itself(self):
        for pattern, _ in small_patterns(124, 200):
            try:
                self.assertIsNone(compare(pattern, pattern, limit=100))
            except (TooManyStates, GroupInLook):
                pass

    def test_simpler_patterns_are_not_told_apart(self):
        for source in ("(?:a|b|)c|(?:a|b|)d", "(?:(?:a*)*)", "(?:ab|ac)", "x(?:[]|y)", "(?=)a|(?!)b", "(?:(a))|b|c"):
            pattern = Pattern(source)
            simpler = Pattern(print_pattern(simplest(pattern.tree), pattern.names), flags="m")
            self.assertIsNone(compare(pattern, simpler, limit=300), source)

    def test_great_patterns(self):
        with few_calls():
            source = "(?:a?){48}(.?){50}b|(a)"
            with self.assertRaises(TooManyStates):
                self.answer(source, source, 60)
            self.assertIsNone(self.answer("(a)?" * 50, "(a)?" * 50, 500))
            with self.assertRaises(TooManyStates):
                looks = "(?=a{9})(?=b{9})(?=c{9})(?=d{9})"
                self.answer(looks, looks)
