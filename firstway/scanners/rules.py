"""Rules of scanners, and the texts of rules."""

from firstway.errors import PatternError, RulesError, TooManyRules
from firstway.notation.reader import FLAGS
from firstway.pattern import Pattern
from firstway.sets.characters import is_digit, is_letter

_RULES_AT_MOST = 8
_PRIORITY_AT_MOST = 1000


class Rule:
    """A rule: its name, its priority and its Pattern."""

    def __init__(self, name, priority, pattern):
        self.name = name
        self.priority = priority
        self.pattern = pattern


def read_rules(text):
    """The list of the rules of a text, in the order of the lines."""
    rules = []
    for index, line in enumerate(text.split("\n")):
        if line != "" and line[0] != "#":
            rules.append(_read_rule(line, index + 1, [rule.name for rule in rules]))
    if len(rules) > _RULES_AT_MOST:
        raise TooManyRules(f"{len(rules)} rules, but at most {_RULES_AT_MOST} are allowed")
    return rules


def _read_rule(line, number, names):
    """The rule of the line with a number; the rules ahead of it have the names."""
    name = _word_from(line, 0)
    if not _is_name(name):
        raise RulesError(number, 1, "a name")
    if name in names:
        raise RulesError(number, 1, "a name that no other rule has")
    begin = _behind_space(line, number, len(name))
    priority = _word_from(line, begin)
    if not _is_priority(priority):
        raise RulesError(number, begin + 1, "a priority")
    begin = _behind_space(line, number, begin + len(priority))
    flags = _word_from(line, begin)
    if not _is_flags(flags):
        raise RulesError(number, begin + 1, "flags")
    begin = _behind_space(line, number, begin + len(flags))
    return Rule(name, int(priority), _read_rest(line, number, begin, flags))


def _word_from(line, begin):
    """The word of a line that begins at an index; it ends at the next space or with the line."""
    return line[begin:].partition(" ")[0]


def _behind_space(line, number, at):
    """The index behind the space that must stand at an index, which is the end of a word."""
    if at == len(line):
        raise RulesError(number, at + 1, "a space")
    return at + 1


def _is_name(word):
    """Whether a word is a name."""
    if word == "" or is_digit(word[0]):
        return False
    return all([is_letter(sign) or is_digit(sign) or sign == "_" for sign in word])


def _is_priority(word):
    """Whether a word is a priority."""
    if word == "" or not all([is_digit(sign) for sign in word]):
        return False
    # Long rows of digits are not made a number: Python refuses the very long ones.
    if len(word) > len(str(_PRIORITY_AT_MOST)) or int(word) > _PRIORITY_AT_MOST:
        return False
    return word == str(int(word))


def _is_flags(word):
    """Whether a word is flags as a rule has them."""
    return word == "-" or (word != "" and word in FLAGS)


def _read_rest(line, number, begin, flags):
    """The Pattern that is the rest of a line from an index on."""
    try:
        return Pattern(line[begin:], flags="" if flags == "-" else flags)
    except PatternError as error:
        raise RulesError(number, begin + error.column, error.expected) from None


def write_rules(rules):
    """The text of a list of rules."""
    return "".join([f"{rule.name} {rule.priority} m {rule.pattern.printed}\n" for rule in rules])
