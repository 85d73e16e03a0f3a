"""Points 77 to 83 and the interface under feeds/feed.py."""

import random
import unittest

from firstway.errors import FeedEnded, LengthError
from firstway.feeds.feed import Feed
from firstway.lazy.search import LazySearch
from firstway.meaning.patterns import weight
from firstway.meaning.plain import plain_all
from firstway.notation.printer import print_pattern
from firstway.pattern import Pattern
from firstway.simpler.rules import simplest
from firstway.simpler.skips import skip_search
from firstway.single.check import never_chooses
from firstway.single.follow import match_single
from tests import feed_oracle
from tests.helpers import few_calls, small_patterns


def spans(matches):
    return [(start, stop) for start, stop, _ in matches]


def fed(source, pieces, flags=""):
    """What a feed tells at each piece, and at the end, as tuples (start, stop)."""
    feed = Feed(Pattern(source, flags=flags))
    told = [spans(feed.push(piece)) for piece in pieces]
    return told + [spans(feed.finish())]


class ToldTest(unittest.TestCase):

    def test_example(self):
        feed = Feed(Pattern("ab|a"))
        told = feed.push("aba")
        self.assertEqual(
            [told, feed.held(), feed.doubt(), feed.finish()], [[(0, 2, ())], 2, "b", [(2, 3, ())]])

    def test_field(self):
        pattern = Pattern("a")
        self.assertIs(Feed(pattern).pattern, pattern)

    def test_at_once(self):
        self.assertEqual(fed("a", "aba"), [[(0, 1)], [], [(2, 3)], []])
        self.assertEqual(fed("a*?", "ab"), [[(0, 0), (1, 1)], [(2, 2)], []])
        self.assertEqual(fed("a{2}", "aaaaa"), [[], [(0, 2)], [], [(2, 4)], [], []])
        self.assertEqual(fed("a|ab", "ab"), [[(0, 1)], [], []])

    def test_what_may_go_on(self):
        self.assertEqual(fed("a+", ["a", "a", "b", "a"]), [[], [], [(0, 2)], [], [(3, 4)]])
        self.assertEqual(fed("ab|a", ["a", "a", "b"]), [[], [(0, 1)], [(1, 3)], []])
        self.assertEqual(fed(".*", ["ab", "\n", ""]), [[], [(0, 2), (2, 2)], [], [(3, 3)]])

    def test_an_end_that_a_thread_behind_could_not_pass(self):
        # Behind "a" the first thread can go on, but only to less than it has.
        self.assertEqual(fed("a|aab", ["a"]), [[(0, 1)], []])
        self.assertEqual(fed("aab|a", ["a", "a", "c"]), [[], [], [(0, 1), (1, 2)], []])

    def test_what_comes_can_take_nothing(self):
        # What is left is not possible: no character has these codes.
        self.assertEqual(fed("a[\\x00]|a", ["a"]), [[(0, 1)], []])
        self.assertEqual(fed("a\\x25|a", ["a"]), [[(0, 1)], []])
        self.assertEqual(fed("a(?:[])+|a", ["a"]), [[(0, 1)], []])
        self.assertEqual(fed("ab[]|a", ["ab"]), [[(0, 1)], []])
        self.assertEqual(fed("a(?:bb*[]|)", ["abb", "a"]), [[(0, 1)], [(3, 4)], []])

    def test_what_is_possible_if_all_anchors_held(self):
        # Behind "ab" the first thread has no move, but anchors are not judged; the last
        # alternative, which waits, leaves only the first case.
        self.assertEqual(fed("ab\\Ab|a", ["ab", "c"]), [[(0, 1)], [], []])
        self.assertEqual(fed("ab\\Ab|a|\\z[]", ["ab", "c"]), [[], [(0, 1)], []])
        self.assertEqual(fed("ab\\A[]|a|\\z[]", ["ab", "c"]), [[(0, 1)], [], []])

    def test_anchors_that_wait(self):
        self.assertEqual(fed("a\\z", ["a"]), [[], [(0, 1)]])
        self.assertEqual(fed("a$", ["a", "\n"], "m"), [[], [(0, 1)], []])
        self.assertEqual(fed("a\\b", ["a", "a", " "]), [[], [], [(1, 2)], []])
        self.assertEqual(fed("a\\B", ["a", "a", " "]), [[], [(0, 1)], [], []])
        self.assertEqual(fed("(?:\\z){0}a", ["a", "b"]), [[], [(0, 1)], []])

    def test_anchors_that_do_not_wait(self):
        self.assertEqual(fed("\\Aa", ["a", "a"]), [[(0, 1)], [], []])
        self.assertEqual(fed("^a", ["a", "\n", "a"], "m"), [[(0, 1)], [], [(2, 3)], []])
        self.assertEqual(fed("\\A", [""]), [[(0, 0)], []])

    def test_looks_wait_for_the_end(self):
        for source in ("a(?=b)", "(?<=b)a|a", "(?!b)a", "(?<!b)a", "a(?:(?=b)){0}"):
            feed = Feed(Pattern(source))
            self.assertEqual((feed.push("ab"), feed.held(), feed.doubt()), ([], 0, None))
            self.assertEqual((feed.push("xab"), feed.held()), ([], 0))
            self.assertEqual(feed.finish(), Pattern(source).find_all("abxab"))

    def test_groups_count_in_the_whole_text(self):
        feed = Feed(Pattern("(a)(b)?;"))
        self.assertEqual(feed.push("xa"), [])
        self.assertEqual(feed.push("b;a;"), [(1, 4, ((1, 2), (2, 3))), (4, 6, ((4, 5), None))])
        self.assertEqual(feed.finish(), [])

    def test_matches_without_width(self):
        self.assertEqual(fed("", ["", "a", "b"]), [[(0, 0)], [(1, 1)], [(2, 2)], []])
        self.assertEqual(fed("b*", ["ab", "a"]), [[(0, 0)], [(1, 2), (2, 2)], [(3, 3)]])
        self.assertEqual(fed("", []), [[(0, 0)]])
        self.assertEqual(fed("a", []), [[]])

    def test_empty_pieces(self):
        self.assertEqual(fed("ab|a", ["", "a", "", "b", ""]), [[], [], [], [(0, 2)], [], []])
        feed = Feed(Pattern("a*?"))
        self.assertEqual((feed.push(""), feed.push(""), feed.held()), ([(0, 0, ())], [], 1))


class EndTest(unittest.TestCase):

    def test_behind_the_end(self):
        feed = Feed(Pattern("a+"))
        feed.push("baa")
        self.assertEqual(feed.finish(), [(1, 3, ())])
        for piece in ("a", "", "a" * 101):
            with self.assertRaises(FeedEnded):
                feed.push(piece)
        with self.assertRaises(FeedEnded):
            feed.finish()
        self.assertEqual((feed.held(), feed.doubt()), (3, None))

    def test_too_many_characters(self):
        feed = Feed(Pattern("a+"))
        with self.assertRaises(LengthError):
            feed.push("a" * 101)
        self.assertEqual((feed.held(), feed.doubt()), (0, None))
        self.assertEqual(feed.push("b" + "a" * 98), [])
        held, doubt = feed.held(), feed.doubt()
        with self.assertRaises(LengthError):
            feed.push("ab")
        self.assertEqual((feed.held(), feed.doubt()), (held, doubt))
        self.assertEqual(feed.push("b"), [(1, 99, ())])
        self.assertEqual(feed.push(""), [])
        with self.assertRaises(LengthError):
            feed.push("a")
        self.assertEqual(feed.finish(), [])
        self.assertEqual(feed.held(), 100)

    def test_returned_lists_are_new(self):
        feed = Feed(Pattern("a"))
        feed.push("a").append(1)
        self.assertEqual(feed.push(""), [])
        feed.push("a").clear()
        self.assertEqual(feed.finish(), [])


class HeldTest(unittest.TestCase):

    def test_held(self):
        for source, text, wanted in (
            ("a", "bb", 2), ("ab", "ba", 1), ("ab", "bb", 2), ("abc|bd", "ab", 0), ("aab|ac", "aa", 0),
            ("a+", "baa", 1), ("", "ab", 3), ("a*", "b", 1), ("", "", 1), ("a", "", 0), ("[]", "ab", 2),
            ("a[]|ab", "ca", 1), ("\\Ab", "ab", 2), ("a\\z", "ba", 1), ("a\\b", "xa", 1), ("(?=a)", "aa", 0),
        ):
            feed = Feed(Pattern(source))
            self.assertEqual(feed.held(), 0)
            feed.push(text)
            self.assertEqual(feed.held(), wanted, (source, text))
            feed.finish()
            self.assertEqual(feed.held(), len(text))

    def test_before_the_first_piece(self):
        feed = Feed(Pattern("a*"))
        self.assertEqual((feed.held(), feed.doubt()), (0, None))


class DoubtTest(unittest.TestCase):

    def test_none(self):
        for source in ("a(?=b)", "\\Aa", "a$", "(?:\\b){0}a", "(?:(?!a)){0}a", "[]", "a\\x25", "(?:[]a)+"):
            feed = Feed(Pattern(source))
            feed.push("a")
            self.assertIsNone(feed.doubt(), source)

    def check_doubt(self, feed, text, told):
        """Point 82 for a feed without looks and anchors to which this text has come."""
        pattern = feed.pattern
        doubt = feed.doubt()
        self.assertTrue(1 <= len(doubt) <= weight(pattern.tree), (pattern.printed, text, doubt))
        found = plain_all(pattern.tree, text + doubt)
        self.assertEqual(found[:len(told)], told)
        start, stop, _ = found[len(told)]
        self.assertEqual((start, stop), (feed.held(), len(text + doubt)), (pattern.printed, text, doubt))
        ends_now = plain_all(pattern.tree, text)
        self.assertTrue(len(ends_now) == len(told) or ends_now[len(told)][1] <= len(text))

    def test_by_hand(self):
        for source, text, length in (
            ("a", "", 1), ("abc", "", 3), ("abc", "ab", 1), ("ab|a", "a", 1), ("a+", "a", 1), ("", "ab", 1),
            ("a*?bcd|a", "a", 3), ("[]a|b", "", 1), ("a(?:bbb|c*)", "a", None), ("x|(?:ab){49}", "ab", 96),
        ):
            feed = Feed(Pattern(source))
            self.check_doubt(feed, text, feed.push(text))
            if length is not None:
                self.assertEqual(len(feed.doubt()), length, (source, text))
            feed.finish()
            self.assertIsNone(feed.doubt())

    def test_first_piece_may_be_empty(self):
        feed = Feed(Pattern("a|bc"))
        self.assertIsNone(feed.doubt())
        self.check_doubt(feed, "", feed.push(""))

    def test_every_doubt(self):
        count = 0
        for pattern, text in small_patterns(82, 600, looks=0):
            if feed_oracle.names_of_anchors(pattern.tree):
                continue
            feed = Feed(pattern)
            told = feed.push("")
            for at in range(len(text) + 1):
                if feed_oracle.possible(pattern.prepared.core.tree):
                    self.check_doubt(feed, text[:at], told)
                    count += 1
                else:
                    self.assertIsNone(feed.doubt())
                told += feed.push(text[at:at + 1])
        self.assertGreater(count, 1000)


class EveryFeedTest(unittest.TestCase):

    def pieces(self, chance, text):
        at = 0
        while at < len(text) or chance.random() < 0.4:
            more = chance.randint(0, 3)
            yield text[at:at + more]
            at += more

    def test_word_by_word(self):
        chance = random.Random(78)
        for looks in (0, 0, 3):
            for pattern, text in small_patterns(78 + looks, 500, length=10, looks=looks):
                feed, slow = Feed(pattern), feed_oracle.SlowFeed(pattern)
                told = []
                for piece in self.pieces(chance, text):
                    wanted = slow.push(piece)
                    self.assertEqual(feed.push(piece), wanted, (pattern.printed, slow.text))
                    told += wanted
                    held = 0 if feed_oracle.has_look(pattern.tree) else slow.held()
                    self.assertEqual(feed.held(), held, (pattern.printed, slow.text))
                self.assertEqual(told + feed.finish(), plain_all(pattern.tree, text))

    def test_nothing_that_comes_changes_what_was_told(self):
        chance = random.Random(83)
        for pattern, text in small_patterns(83, 300, looks=0):
            feed, told, at = Feed(pattern), [], 0
            for piece in self.pieces(chance, text):
                told += feed.push(piece)
                at = min(at + len(piece), len(text))
                for _ in range(3):
                    more = "".join(chance.choice("ab_ \nc") for _ in range(chance.randint(0, 4)))
                    found = plain_all(pattern.tree, text[:at] + more)
                    self.assertEqual(found[:len(told)], told)
                    self.assertTrue(all(start >= feed.held() for start, _, _ in found[len(told):]))

    def test_every_machine_finds_the_same(self):
        for pattern, text in small_patterns(1, 200):
            feed = Feed(pattern)
            found = feed.push(text[:3]) + feed.push(text[3:]) + feed.finish()
            self.assertEqual(found, pattern.find_all(text))
            simpler = Pattern(print_pattern(simplest(pattern.tree), pattern.names), flags="m")
            self.assertEqual(simpler.find_all(text), found)
            lazy = LazySearch(pattern, bound=5)
            position = 0
            for match in [*found, None]:
                if position <= len(text):
                    self.assertEqual(lazy.search(text, position), match)
                    self.assertEqual(skip_search(pattern, text, position), match)
                if match is not None:
                    if never_chooses(pattern.prepared):
                        self.assertEqual(match_single(pattern, text, match[0]), match)
                    position = match[1] + (match[0] == match[1])

    def test_great_patterns(self):
        with few_calls():
            for source in ("(?:a?){48}(.?){50}b|(a)", "(?:ab){49}|a", "((((a*)*)*)*)*c"):
                feed = Feed(Pattern(source))
                told = []
                for sign in "ab" * 50:
                    told += feed.push(sign)
                    feed.held()
                    feed.doubt()
                self.assertEqual(told + feed.finish(), Pattern(source).find_all("ab" * 50))
