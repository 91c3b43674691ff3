"""Random questions: the check and the answer are what a second reading of the document tells."""

import random
import unittest

from kithwhole.errors import QuestionError, RefusedText
from kithwhole.kinds import check, check_query
from kithwhole.meaning import answer, query_rows
from kithwhole.parser import parse
from kithwhole.printer import write_question
from kithwhole.tokens import tokenize
from tests.question_oracle import Check, Meaning
from tests.random_questions import Asker, make_sources

SEEDS = 3000


def outcome(function, *arguments):
    """The result or the error of a call, with its attributes and the kinds of all values."""
    try:
        return repr(function(*arguments))
    except QuestionError as error:
        return type(error).__name__ + repr(sorted(vars(error).items()))


class AgainstTheOracle(unittest.TestCase):
    def test_random_questions(self):
        told = {}
        for seed in range(SEEDS):
            chance = random.Random(seed)
            sources = make_sources(chance, chance.choice([3, 6]))
            asker = Asker(chance, chance.choice([0, 0.02, 0.1]), chance.choice([2, 3, 4]))
            tree, parameters = asker.question(), asker.parameters
            before = repr([(source.columns, source.kinds, source.rows) for source in sources.values()])
            expected = outcome(Check(sources, parameters).question, tree)
            self.assertEqual(outcome(check, tree, sources, parameters), expected, tree)
            word = expected.split("[")[0]
            told[word] = told.get(word, 0) + 1
            if word == "":
                self.compare(tree, sources, parameters)
            self.assertEqual(repr([(source.columns, source.kinds, source.rows) for source in sources.values()]), before)
            self.printed(tree)
        for word in ("", "AggregateNotAllowed", "AmbiguousColumn", "ColumnCount", "DuplicateSource",
                     "GroupingNotAllowed", "KindMismatch", "NotGrouped", "NothingToShow", "RowCount", "UnknownColumn",
                     "UnknownParameter", "UnknownPosition", "UnknownTable"):
            self.assertGreater(told.get(word, 0), 2, word)

    def compare(self, tree, sources, parameters):
        meaning = Meaning(sources, parameters)
        query = tree[1]
        self.assertEqual(repr(query_rows(query, sources, parameters)), repr(meaning.query(query, [])), tree)
        names, rows = answer(tree, sources, parameters)
        self.assertEqual(repr((names, rows)), repr(meaning.answer(tree)), tree)
        self.assertEqual([name for name, _ in check_query(query, sources, parameters)], names)

    def printed(self, tree):
        text = write_question(tree)
        try:
            self.assertEqual(parse(text), tree, text)
        except RefusedText:
            # Only the limits refuse such a text.
            words = tokenize(text)
            self.assertTrue(len(words) > 120 or sum(word[1] in ("(", "case", "not", "-") for word in words) > 12, text)


if __name__ == "__main__":
    unittest.main()
