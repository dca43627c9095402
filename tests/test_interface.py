"""The interface: stateheirs.states.answers(calls)."""

import unittest

from stateheirs.states import answers
from tests.support import flat

# One call of every number at least, by the document's own numbers, and what each answers, with how many ahead.
EACH = [
    ([0, 2, 3], [1, 0]),
    ([1, 0, 1], [1, 1]),
    ([1, 1, 1], [1, 1]),
    ([17, 1], [1, 1]),
    ([3, 0, 7], [1, 7]),
    ([4, 0, 2], [1, 5]),
    ([19, 0, 1, 2], [2, 1, 4]),
    ([5, 0, 0, 1, 2], [1, 2]),
    ([18, 2], [2, 1, 2]),
    ([7, 2, 1], [1, 1]),
    ([8, 2], [3, 1, 2, 2]),
    ([9, 1], [2, 3, 7]),
    ([10, 0, 1], [2, 1, 2]),
    ([11, 2], [1, 4]),
    ([12], [2, 5, 3]),
    ([2, 0, 1], [1, 0]),
    ([6, 1, 2, 1], [1, 2]),
    ([11, 2], [1, -2]),
    ([8, 1], [3, 1, 2, 2]),
    ([13, 2], [2, 1, 2]),
    ([14, 2], [2, 2, 5]),
    ([15, 0], [2, 2, 3]),
    ([16, 2, 0], [1, 1]),
    ([16, 2, 1], [1, 0]),
    ([22], [5, 3, 3, 3, 8, 0]),
    ([20], [1, 7]),
    ([20], [1, 6]),
    ([22], [5, 3, 3, 7, 6, 2]),
    ([21], [1, 1]),
    ([22], [5, 3, 3, 7, 7, 1]),
]
WHOLE = [number for call, answer in EACH for number in call]
WHOLE_ANSWERS = [number for call, answer in EACH for number in answer]


class AnswersTest(unittest.TestCase):
    def test_numbers_of_the_calls_and_form_of_the_answers(self):
        self.assertEqual({call[0] for call, answer in EACH}, set(range(23)))
        for k in range(1, len(EACH) + 1):
            self.assertEqual(answers([number for call, answer in EACH[:k] for number in call]),
                             [number for call, answer in EACH[:k] for number in answer], EACH[k - 1])

    def test_kinds(self):
        told = answers(WHOLE)
        self.assertIs(type(told), list)
        self.assertEqual({type(number) for number in told}, {int})

    def test_handed_in_is_not_changed(self):
        handed = list(WHOLE)
        told = answers(handed)
        self.assertEqual(handed, WHOLE)
        told.append(5)
        self.assertEqual(handed, WHOLE)

    def test_nothing_is_kept(self):
        first = answers(WHOLE)
        first.append(5)
        self.assertEqual(answers(WHOLE), WHOLE_ANSWERS)
        answers([0, 4, 8, 3, 3, 1000000])
        self.assertEqual(answers(WHOLE), WHOLE_ANSWERS)
        self.assertEqual(answers([0, 5, 1]), [1, -22])

    def test_one_call(self):
        self.assertEqual(answers([0, 1, 1]), [1, 0])
        self.assertEqual(answers([0, 0, 1]), [1, -22])

    def test_a_thousand_calls(self):
        calls = [("start", 1, 1)] + [("part", 0, 0, 1, 1)] * 999
        told = answers(flat(calls))
        self.assertEqual(len(flat(calls)), 4998)
        self.assertEqual(told[:4] + told[-2:], [1, 0, 1, 1, 1, -28])
        self.assertEqual(len(told), 2000)
