"""Scanners: they cut texts into tokens."""

from firstway.scanners.offers import best_offer
from firstway.scanners.rules import read_rules
from firstway.threads.passes import view_of


class Scanner:
    """A scanner with the rules of a text of rules."""

    def __init__(self, rules_text):
        self.rules = tuple(read_rules(rules_text))

    def views(self, text):
        """A list with a view of the text for each rule."""
        return [view_of(rule.pattern.prepared, text) for rule in self.rules]

    def token_from(self, views, length, position):
        """The token that is found from a position, and up to where it has seen."""
        index, stop, seen = best_offer(self.rules, views, position)
        if index is not None:
            return ((self.rules[index].name, position, stop), seen)
        stop = position
        while index is None and stop < length:
            stop += 1
            index, _, more = best_offer(self.rules, views, stop)
            seen = max(seen, more)
        return ((None, position, stop), seen)

    def tokens(self, text):
        """The list of the tokens of a text."""
        views = self.views(text)
        found = []
        position = 0
        while position < len(text):
            token, _ = self.token_from(views, len(text), position)
            found.append(token)
            position = token[2]
        return found

    def has_looks(self):
        """Whether the pattern of some rule has a look."""
        return any([len(rule.pattern.prepared.looks) > 0 for rule in self.rules])
