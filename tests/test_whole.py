"""What the document promises over the whole program: whatever the history of a document and
whichever machine is asked, the answer is that of the meaning (points 1, 20, 41, 45, 64, 76, 83, 84,
87, 90, 94 to 96, 102 and 113)."""

import random
import unittest

from firstway.comparing.compare import compare
from firstway.documents.document import Document
from firstway.documents.edits import edited
from firstway.errors import LengthError, NoWord
from firstway.feeds.feed import Feed
from firstway.lazy.search import LazySearch
from firstway.meaning.plain import plain_all, plain_search
from firstway.notation.printer import print_pattern
from firstway.pattern import Pattern
from firstway.replacing.replace import replace_text
from firstway.replacing.rewriting import replace_all
from firstway.saving.saving import load, save
from firstway.scanners.rules import Rule, write_rules
from firstway.scanners.scanner import Scanner
from firstway.scanners.token_documents import TokenDocument
from firstway.simpler.rules import simplest
from firstway.simpler.skips import skip_search, word_search
from firstway.single.check import never_chooses
from firstway.single.follow import match_single
from tests import scanner_oracle
from tests.helpers import few_calls, small_patterns


class WholeTest(unittest.TestCase):

    def change(self, chance, documents, number):
        """Makes a change in one of the documents, or puts another one in its place."""
        document = documents[number]
        pick = chance.random()
        if pick < 0.15:
            document.undo()
        elif pick < 0.25:
            document.redo()
        elif pick < 0.35:
            documents.append(document.fork())
        elif pick < 0.45:
            documents[number] = load(save(document))
        elif pick < 0.55 and document.numbers():
            chosen = chance.choice(document.numbers())
            wanted = replace_text(document.pattern_of(chosen), document.text, "$&b")
            try:
                replace_all(document, chosen, "$&b")
                self.assertEqual(document.text, wanted)
            except LengthError:
                self.assertGreater(len(wanted), 100)
        else:
            text, edits = document.text, []
            for _ in range(chance.randint(1, 2)):
                position = chance.choice((0, len(text), chance.randint(0, len(text))))
                inserted = "".join(chance.choice("aab_ \nc") for _ in range(chance.randint(0, 3)))
                edits.append((position, chance.randint(0, min(3, len(text) - position)), inserted))
                text = edited(text, edits[-1])
            document.edit_all(edits)
            self.assertEqual(document.text, text)

    def check_document(self, chance, document, lazies):
        """All machines find in the present text what the meaning says."""
        text = document.text
        for number in document.numbers():
            pattern = document.pattern_of(number)
            wanted = plain_all(pattern.tree, text)
            self.assertEqual(document.matches(number), wanted, (pattern.printed, text))
            self.assertEqual(list(pattern.each_match(text)), wanted)
            self.check_feed(chance, pattern, text, wanted)
            lazy = lazies.setdefault((pattern.source, pattern.flags), LazySearch(pattern, bound=20))
            position = chance.randint(0, len(text))
            found = plain_search(pattern.tree, text, position)
            self.assertEqual(pattern.search(text, position), found)
            self.assertEqual(lazy.search(text, position), found)
            self.assertEqual(skip_search(pattern, text, position), found)
            if never_chooses(pattern.prepared):
                for match in wanted:
                    self.assertEqual(match_single(pattern, text, match[0]), match)
            try:
                self.assertEqual(word_search(pattern, text, position), found)
            except NoWord:
                pass

    def check_feed(self, chance, pattern, text, wanted):
        feed, told, at = Feed(pattern), [], 0
        while at < len(text):
            more = chance.randint(0, 4)
            told += feed.push(text[at:at + more])
            self.assertEqual(told, wanted[:len(told)])
            at += more
        self.assertEqual(told + feed.finish(), wanted)

    def test_every_machine_behind_every_history(self):
        chance = random.Random(1)
        made = list(small_patterns(113, 160, length=10))
        for k in range(0, len(made) - 3, 3):
            documents, lazies = [Document(made[k][1])], {}
            for pattern, _ in made[k:k + 3]:
                documents[0].add(pattern.source, flags=pattern.flags)
            for _ in range(6):
                number = chance.randrange(len(documents))
                others = [save(document) for document in documents]
                self.change(chance, documents, number)
                for other, saved in enumerate(others):
                    if other != number:
                        self.assertEqual(save(documents[other]), saved)
                self.check_document(chance, documents[number], lazies)
                self.assertEqual(save(load(save(documents[number]))), save(documents[number]))

    def test_tokens_behind_every_history(self):
        chance = random.Random(108)
        made = list(small_patterns(114, 90, length=10))
        for k in range(0, len(made) - 3, 3):
            rules = [Rule("r%d" % at, chance.randint(0, 1), pattern) for at, (pattern, _) in enumerate(made[k:k + 3])]
            scanner = Scanner(write_rules(rules))
            document, tokens = Document(made[k][1]), TokenDocument(scanner, made[k][1])
            for pattern, _ in made[k:k + 3]:
                document.add(pattern.source, flags=pattern.flags)
            for _ in range(5):
                position = chance.randint(0, len(document.text))
                edit = (position, chance.randint(0, len(document.text) - position), chance.choice(("", "a", "ba ", "\nb")))
                document.edit(*edit)
                tokens.edit(*edit)
                self.assertEqual(tokens.text, document.text)
                self.assertEqual(tokens.tokens(), scanner.tokens(document.text))
                wanted = scanner_oracle.rows(scanner.rules, document.text)
                self.assertEqual(list(zip(tokens.tokens(), tokens.seen())), wanted)

    def test_patterns_that_are_not_told_apart(self):
        for source in ("(a|b)*c", "(?:a|ab)(?:c|bcd)", "(?:a|b|)c|d", "a(?=b)|a(?!b)", "\\b(a+)\\b"):
            pattern = Pattern(source)
            other = Pattern(print_pattern(simplest(pattern.tree), pattern.names), flags="m")
            self.assertIsNone(compare(pattern, other, limit=500))

    def test_long_texts(self):
        with few_calls():
            chance = random.Random(5)
            sources = ("(a+)(b?)(?=c|\\z)", "(?:ab|a)*?c", "(?<=a(?!b.{3}))[a-c]{2,9}", "(?:(a)|(b)|c){0,30}")
            document = Document("".join(chance.choice("abc") for _ in range(100)))
            for source in sources:
                document.add(source)
            for _ in range(6):
                position = chance.randint(0, 98)
                document.edit(position, 2, chance.choice(("", "a", "cc")))
                for number, source in enumerate(sources):
                    wanted = Pattern(source).find_all(document.text)
                    self.assertEqual(document.matches(number), wanted)
                    self.check_feed(chance, document.pattern_of(number), document.text, wanted)
            self.assertEqual(document.matches(0), plain_all(Pattern(sources[0]).tree, document.text))
