"""The interface: stateheirs.states.answers(calls)."""

import unittest

from stateheirs.states import answers
from tests.support import flat

# One call of every number, by the document's own numbers.
WHOLE = [0, 2, 3, 1, 0, 1, 1, 1, 1, 3, 0, 7, 4, 0, 2, 5, 0, 0, 1, 2, 7, 2, 1, 8, 2, 9, 1, 10, 0, 1, 11, 2,
         2, 0, 1, 6, 1, 2, 1, 11, 2, 8, 1]
WHOLE_ANSWERS = [1, 0, 1, 1, 1, 1, 1, 7, 1, 5, 1, 2, 1, 1, 3, 1, 2, 2, 2, 3, 7, 2, 1, 2, 1, 4,
                 1, 0, 1, 2, 1, -2, 3, 1, 2, 2]


class AnswersTest(unittest.TestCase):
    def test_numbers_of_the_calls_and_form_of_the_answers(self):
        self.assertEqual(answers(WHOLE), WHOLE_ANSWERS)

    def test_kinds(self):
        told = answers(WHOLE)
        self.assertIs(type(told), list)
        self.assertEqual({type(number) for number in told}, {int})

    def test_handed_in_is_not_changed(self):
        handed = list(WHOLE)
        told = answers(handed)
        self.assertEqual(handed, WHOLE)
        told.append(5)
        self.assertEqual(handed, WHOLE)

    def test_nothing_is_kept(self):
        first = answers(WHOLE)
        first.append(5)
        self.assertEqual(answers(WHOLE), WHOLE_ANSWERS)
        answers([0, 4, 8, 3, 3, 1000000])
        self.assertEqual(answers(WHOLE), WHOLE_ANSWERS)
        self.assertEqual(answers([0, 5, 1]), [1, -22])

    def test_one_call(self):
        self.assertEqual(answers([0, 1, 1]), [1, 0])
        self.assertEqual(answers([0, 0, 1]), [1, -22])

    def test_a_thousand_calls(self):
        calls = [("start", 1, 1)] + [("part", 0, 0, 1, 1)] * 999
        told = answers(flat(calls))
        self.assertEqual(len(flat(calls)), 4998)
        self.assertEqual(told[:4] + told[-2:], [1, 0, 1, 1, 1, -28])
        self.assertEqual(len(told), 2000)
