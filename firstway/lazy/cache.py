"""A cache of steps."""

from firstway.errors import CountError

_MOST = 1000


class StepCache:
    """Items, each with a question and an outcome, in the order in which they were learned."""

    def __init__(self, bound):
        if not 1 <= bound <= _MOST:
            raise CountError(f"the bound {bound} is not from 1 to {_MOST}")
        self.bound = bound
        self.outcomes = {}

    def outcome(self, question):
        """The outcome of the item with this question, or None."""
        return self.outcomes.get(question)

    def learn(self, question, outcome):
        """Adds an item, whose question is not in the cache; a full cache is emptied first."""
        if len(self.outcomes) == self.bound:
            self.outcomes = {}
        self.outcomes[question] = outcome

    def keep_latest(self, count):
        """Removes all items but so many latest ones; returns the number of removed items."""
        if not 0 <= count <= _MOST:
            raise CountError(f"the count {count} is not from 0 to {_MOST}")
        removed = max(0, len(self.outcomes) - count)
        for question in self.questions()[:removed]:
            del self.outcomes[question]
        return removed

    def questions(self):
        """The list of the questions, in the order in which they were learned."""
        return list(self.outcomes)
