"""Points 103 to 105 and the interface under scanners/rules.py."""

import unittest

from firstway.errors import RulesError, TooManyRules
from firstway.notation.reader import read_pattern
from firstway.pattern import Pattern
from firstway.scanners.rules import Rule, read_rules, write_rules
from tests.helpers import few_calls, small_patterns


def told(rules):
    return [(rule.name, rule.priority, rule.pattern.flags, rule.pattern.source) for rule in rules]


class RuleTest(unittest.TestCase):

    def test_fields(self):
        pattern = Pattern("a")
        rule = Rule("word", 7, pattern)
        self.assertEqual((rule.name, rule.priority), ("word", 7))
        self.assertIs(rule.pattern, pattern)


class ReadTest(unittest.TestCase):

    def test_rules_in_order(self):
        found = read_rules("word 1 - [a-z]+\nNumber_2 1000 im \\d+\n_ 0 ims  a b \n")
        self.assertEqual(told(found), [
            ("word", 1, "", "[a-z]+"), ("Number_2", 1000, "im", "\\d+"), ("_", 0, "ims", " a b "),
        ])
        self.assertIsInstance(found[0], Rule)
        self.assertIsInstance(found[0].pattern, Pattern)

    def test_lines_that_say_nothing(self):
        self.assertEqual(read_rules(""), [])
        self.assertEqual(read_rules("\n\n#\n# a 1 -\n#b 1 - c\n"), [])
        self.assertEqual(told(read_rules("\n# words\na 1 - b")), [("a", 1, "", "b")])

    def test_all_flags(self):
        for flags in ("i", "m", "s", "im", "is", "ms", "ims"):
            rule = read_rules("a 1 " + flags + " ^.a")[0]
            self.assertEqual((rule.pattern.flags, rule.pattern.tree), (flags, read_pattern("^.a", flags)[0]))
        self.assertEqual(read_rules("a 1 - ^.a")[0].pattern.tree, read_pattern("^.a", "")[0])

    def test_priorities(self):
        for priority in (0, 1, 9, 10, 99, 100, 101, 999, 1000):
            self.assertEqual(read_rules("a " + str(priority) + " - b")[0].priority, priority)

    def test_patterns_may_be_empty_and_have_spaces(self):
        self.assertEqual(told(read_rules("a 1 - ")), [("a", 1, "", "")])
        self.assertEqual(told(read_rules("a 1 -  ")), [("a", 1, "", " ")])
        self.assertEqual(told(read_rules("a 1 - b # c\td")), [("a", 1, "", "b # c\td")])

    def test_equal_names_in_other_cases(self):
        self.assertEqual([rule.name for rule in read_rules("a 1 - b\nA 1 - b\naa 1 - b")], ["a", "A", "aa"])

    def test_eight_rules(self):
        lines = ["r" + str(number) + " 1 - a\n" for number in range(12)]
        self.assertEqual(len(read_rules("".join(lines[:8]) + "\n# more\n")), 8)
        for count in (9, 12):
            with self.assertRaises(TooManyRules):
                read_rules("".join(lines[:count]))

    def test_lists_are_new(self):
        read_rules("a 1 - b").clear()
        self.assertEqual(len(read_rules("a 1 - b")), 1)

    def test_long_texts(self):
        with few_calls():
            self.assertEqual(len(read_rules("# nothing here\n" * 250 + "a 1 - " + "[a-z]" * 40)), 1)
            self.assertEqual(read_rules("a" * 3000 + " 1 - b")[0].name, "a" * 3000)


class WrongLinesTest(unittest.TestCase):

    def refused(self, text):
        with self.assertRaises(RulesError) as caught:
            read_rules(text)
        return caught.exception.line, caught.exception.column, caught.exception.expected

    def test_example(self):
        self.assertEqual(self.refused("word 1 - [a-z"), (1, 14, "the end of the class"))

    def test_names(self):
        for line in (" ", " # a", " a 1 - b", "1a 1 - b", "a-b 1 - c", "a.", "-", "a\t1 - b", "  1 - b", "a#", "\t", "(a)"):
            self.assertEqual(self.refused(line), (1, 1, "a name"))

    def test_names_of_other_rules(self):
        wanted = (3, 1, "a name that no other rule has")
        self.assertEqual(self.refused("a 1 - b\nb 1 - b\na 1 - c"), wanted)
        self.assertEqual(self.refused("a 1 - b\n\na"), wanted)

    def test_spaces(self):
        self.assertEqual(self.refused("ab"), (1, 3, "a space"))
        self.assertEqual(self.refused("ab 12"), (1, 6, "a space"))
        self.assertEqual(self.refused("ab 12 -"), (1, 8, "a space"))
        self.assertEqual(self.refused("ab 12 ims"), (1, 10, "a space"))

    def test_priorities(self):
        for word in ("", "01", "00", "1001", "10000", "-1", "+1", "1.0", "x", "1x", "9" * 3000):
            self.assertEqual(self.refused("ab " + word + " - c"), (1, 4, "a priority"), word)
        self.assertEqual(self.refused("ab "), (1, 4, "a priority"))
        self.assertEqual(self.refused("ab  1 - c"), (1, 4, "a priority"))
        self.assertEqual(self.refused("ab 1001"), (1, 4, "a priority"))

    def test_flags(self):
        for word in ("", "mi", "ii", "x", "--", "-i", "I", "imsi", "sm"):
            self.assertEqual(self.refused("ab 12 " + word + " c"), (1, 7, "flags"), word)
        self.assertEqual(self.refused("ab 12 "), (1, 7, "flags"))
        self.assertEqual(self.refused("ab 12  - c"), (1, 7, "flags"))
        self.assertEqual(self.refused("ab 12 x"), (1, 7, "flags"))

    def test_patterns(self):
        for source, column, expected in (
            ("(a", 1, "a closing bracket"), ("ab)", 3, "an open bracket"), (" **", 3, "something to repeat"), ("**", 1,
             "something to repeat"), ("\\", 2, "a character behind the backslash"),
            ("a{51}", 4, "a count up to 50"), ("a" * 101, 1, "a smaller pattern"),
        ):
            self.assertEqual(self.refused("ab 12 i " + source), (1, column + 8, expected))

    def test_the_first_wrong_line_is_reported(self):
        self.assertEqual(self.refused("\n# a\na 1 - b\n\nc 1 - (\n1"), (5, 7, "a closing bracket"))
        self.assertEqual(self.refused("a 1 - b\na"), (2, 1, "a name that no other rule has"))
        self.assertEqual(self.refused("1"), (1, 1, "a name"))

    def test_the_first_error_of_a_line_is_reported(self):
        self.assertEqual(self.refused("1a x x ("), (1, 1, "a name"))
        self.assertEqual(self.refused("a 1 - b\na x x ("), (2, 1, "a name that no other rule has"))
        self.assertEqual(self.refused("a x x ("), (1, 3, "a priority"))
        self.assertEqual(self.refused("a 1 x ("), (1, 5, "flags"))
        self.assertEqual(self.refused("a 1 i ("), (1, 7, "a closing bracket"))

    def test_wrong_lines_come_before_too_many_rules(self):
        lines = "".join(["r" + str(number) + " 1 - a\n" for number in range(9)])
        self.assertEqual(self.refused(lines + "r9 1 - )"), (10, 8, "an open bracket"))


class WriteTest(unittest.TestCase):

    def test_by_hand(self):
        rules = read_rules("word 12 i [a]+\nend 0 - $\nnone 3 m \n")
        self.assertEqual(write_rules(rules), "word 12 m [Aa]+\nend 0 m \\z\nnone 3 m \n")
        self.assertEqual(write_rules([]), "")
        self.assertEqual(len(rules), 3)

    def test_written_rules_are_read_again(self):
        patterns = [pattern for pattern, _ in small_patterns(105, 300)]
        patterns += [Pattern("(?<n>a\\n)|\\x0d(?<m>)"), Pattern(" # "), Pattern("\\x25\n\t")]
        for begin in range(0, len(patterns), 8):
            rules = [Rule("r" + str(at), 7 * at, pattern) for at, pattern in enumerate(patterns[begin:begin + 8])]
            again = read_rules(write_rules(rules))
            self.assertEqual([(r.name, r.priority) for r in again], [(r.name, r.priority) for r in rules])
            self.assertEqual(
                [(r.pattern.tree, r.pattern.names) for r in again], [(r.pattern.tree, r.pattern.names) for r in rules])
            self.assertEqual(write_rules(again), write_rules(rules))
