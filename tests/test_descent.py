"""Point 5: su_from, su_line, su_heirs, su_kin."""

from tests.support import ALL_STATES, CallsTest, HUGE, last, run


def part(i):
    return ("part", i, 0, 1, 1)


def join(i, j):
    return ("join", i, j, 0)


# 0 - 2 - 3 - 4, and 1 - 5: each parted from the one before it.
TWO_LINES = [("start", 2, 2), part(0), part(2), part(3), part(1)]
# Three that parted from 0.
SIBLINGS = [("start", 1, 1), part(0), part(0), part(0)]
CHAIN = [("start", 1, 1)] + [part(i) for i in range(11)]


class FromTest(CallsTest):
    def test_from_the_beginning(self):
        for n in range(1, 5):
            for i in range(n):
                self.answers_last([("start", n, 1), ("from", i)], [0, 0])

    def test_parted(self):
        self.answers_each(TWO_LINES, {("from", 0): [0, 0], ("from", 1): [0, 0], ("from", 2): [1, 0],
                                      ("from", 3): [3, 0], ("from", 4): [4, 0], ("from", 5): [2, 0]})

    def test_parted_in_either_mode(self):
        for mode in (0, 1):
            self.answers_last([("start", 2, 1), ("part", 1, mode, 0, 9), ("from", 2)], [2, 0])

    def test_taken_up(self):
        for mode in (0, 1):
            joined = TWO_LINES + [("join", 5, 0, mode), ("join", 1, 3, mode)]
            self.answers_each(joined, {("from", 0): [0, 6], ("from", 3): [3, 2], ("from", 1): [0, 0],
                                       ("from", 5): [2, 0], ("from", 4): [4, 0]})

    def test_taken_up_by_the_first(self):
        self.answers_last(TWO_LINES + [join(0, 1), ("from", 1)], [0, 1])

    def test_the_taker_is_told_though_it_is_gone_itself(self):
        self.answers_each(TWO_LINES + [join(1, 2), join(5, 1)], {("from", 2): [1, 2], ("from", 1): [0, 6]})

    def test_the_last_of_twelve(self):
        self.answers_last(CHAIN + [("from", 11)], [11, 0])
        self.answers_last(CHAIN + [join(11, 10), ("from", 10)], [10, 12])


class LineTest(CallsTest):
    def test_from_the_beginning(self):
        for i in range(4):
            self.answers_last([("start", 4, 1), ("line", i)], [1, 2 ** i])

    def test_parted(self):
        self.answers_each(TWO_LINES, {("line", 0): [1, 1], ("line", 1): [1, 2], ("line", 2): [2, 5],
                                      ("line", 3): [3, 13], ("line", 4): [4, 29], ("line", 5): [2, 34]})

    def test_others_that_parted_are_not_in_it(self):
        self.answers_each(SIBLINGS, {("line", 0): [1, 1], ("line", 1): [2, 3], ("line", 2): [2, 5],
                                     ("line", 3): [2, 9]})

    def test_of_one_that_is_gone(self):
        for taker in (1, 3, 4, 5, 0):
            self.answers_each(TWO_LINES + [join(taker, 2)], {("line", 2): [2, 5], ("line", 4): [4, 29]})

    def test_joining_leaves_the_lines(self):
        self.answers_each(TWO_LINES + [join(1, 0), join(4, 3)],
                          {("line", 1): [1, 2], ("line", 0): [1, 1], ("line", 4): [4, 29], ("line", 3): [3, 13]})

    def test_parted_from_one_that_took_up_another(self):
        self.answers_last(TWO_LINES + [join(1, 4), part(1), ("line", 6)], [2, 66])

    def test_all_twelve(self):
        self.answers_last(CHAIN + [("line", 11)], [12, 4095])
        self.answers_last(CHAIN + [("line", 5)], [6, 63])


class HeirsTest(CallsTest):
    def test_from_the_beginning(self):
        for i in range(4):
            self.answers_last([("start", 4, 1), ("heirs", i)], [1, 2 ** i])

    def test_parted(self):
        self.answers_each(TWO_LINES, {("heirs", 0): [4, 29], ("heirs", 2): [3, 28], ("heirs", 3): [2, 24],
                                      ("heirs", 4): [1, 16], ("heirs", 1): [2, 34], ("heirs", 5): [1, 32]})

    def test_siblings_are_not_heirs(self):
        self.answers_each(SIBLINGS, {("heirs", 0): [4, 15], ("heirs", 1): [1, 2], ("heirs", 3): [1, 8]})

    def test_taken_up_by_another_line(self):
        self.answers_each(TWO_LINES + [join(1, 2)],
                          {("heirs", 2): [3, 26], ("heirs", 0): [4, 27], ("heirs", 1): [2, 34], ("heirs", 3): [2, 24]})

    def test_taken_up_one_behind_another(self):
        joined = TWO_LINES + [join(1, 2), join(5, 1)]
        self.answers_each(joined, {("heirs", 2): [3, 56], ("heirs", 1): [1, 32], ("heirs", 0): [4, 57]})
        self.answers_each(joined + [join(0, 5)],
                          {("heirs", 2): [3, 25], ("heirs", 1): [1, 1], ("heirs", 5): [1, 1], ("heirs", 0): [3, 25]})

    def test_one_that_is_gone_with_its_line_still_there(self):
        gone = [("start", 2, 1), part(0), join(1, 0)]
        self.answers_each(gone, {("heirs", 0): [2, 6], ("heirs", 2): [1, 4], ("heirs", 1): [1, 2]})
        self.answers_last(gone + [part(2), ("heirs", 0)], [3, 14])

    def test_taken_up_by_one_that_parted_from_it(self):
        self.answers_each([("start", 1, 1), part(0), join(1, 0)], {("heirs", 0): [1, 2], ("heirs", 1): [1, 2]})

    def test_taken_up_by_the_one_it_parted_from(self):
        self.answers_each([("start", 1, 1), part(0), join(0, 1)], {("heirs", 0): [1, 1], ("heirs", 1): [1, 1]})

    def test_two_end_up_in_one(self):
        self.answers_last(SIBLINGS + [join(2, 1), ("heirs", 0)], [3, 13])
        self.answers_last(SIBLINGS + [join(2, 1), join(2, 3), ("heirs", 0)], [2, 5])

    def test_what_parts_from_the_taker_is_no_heir(self):
        parted = [("start", 2, 1), join(0, 1), part(0)]
        self.answers_each(parted, {("heirs", 1): [1, 1], ("heirs", 0): [2, 5], ("heirs", 2): [1, 4]})

    def test_all_twelve(self):
        self.answers_last(CHAIN + [("heirs", 0)], [12, 4095])
        self.answers_last(CHAIN + [("heirs", 11)], [1, 2048])

    def test_through_eleven_takings_up(self):
        upward = CHAIN + [join(i + 1, i) for i in range(11)]
        downward = CHAIN + [join(i, i + 1) for i in reversed(range(11))]
        for i in ALL_STATES:
            self.answers_last(upward + [("heirs", i)], [1, 2048])
            self.answers_last(downward + [("heirs", i)], [1, 1])


class KinTest(CallsTest):
    def test_from_the_beginning(self):
        for i in range(4):
            for j in range(4):
                self.answers_last([("start", 4, 1), ("kin", i, j)], [1 if i == j else 0])

    def test_two_lines(self):
        for i in range(6):
            for j in range(6):
                alike = (i in (1, 5)) == (j in (1, 5))
                self.answers_last(TWO_LINES + [("kin", i, j)], [1 if alike else 0])

    def test_siblings(self):
        for i in range(4):
            for j in range(4):
                self.answers_last(SIBLINGS + [("kin", i, j)], [1])

    def test_taking_up_makes_no_kin(self):
        joined = TWO_LINES + [join(1, 2), join(4, 5)]
        self.answers_each(joined, {("kin", 1, 2): [0], ("kin", 2, 1): [0], ("kin", 1, 0): [0], ("kin", 4, 5): [0],
                                   ("kin", 4, 1): [0], ("kin", 2, 4): [1], ("kin", 5, 1): [1]})

    def test_those_that_are_gone(self):
        joined = TWO_LINES + [join(1, 0), join(1, 2), join(1, 3)]
        for i in (0, 2, 3, 4):
            for j in (0, 2, 3, 4):
                self.answers_last(joined + [("kin", i, j)], [1])
            self.answers_last(joined + [("kin", i, 1)], [0])
            self.answers_last(joined + [("kin", 5, i)], [0])

    def test_the_same_is_kin(self):
        joined = TWO_LINES + [join(1, 2)]
        for i in range(6):
            self.answers_last(joined + [("kin", i, i)], [1])


class NeverThereTest(CallsTest):
    def test_never_there(self):
        for begun, count in ((TWO_LINES, 6), (TWO_LINES + [join(0, 5)], 6), (CHAIN, 12), ([("start", 1, 1)], 1)):
            for i in (count, count + 1, 12, 31, 32, 64, 4096, HUGE - 1, HUGE):
                for call in (("from", i), ("line", i), ("heirs", i), ("kin", i, 0), ("kin", 0, i), ("kin", i, i),
                             ("kin", HUGE, i), ("kin", i, HUGE)):
                    self.assertEqual(last(begun + [call]), [-2], call)

    def test_refused_leaves_all(self):
        for call in (("from", 6), ("line", HUGE), ("heirs", 12), ("kin", 6, 0), ("kin", 0, 6)):
            self.refuses(TWO_LINES + [join(0, 5), ("sign", 0, 0), ("back",)], call, -2)

    def test_one_of_two_gone_is_no_refusal(self):
        self.assertEqual(run(TWO_LINES + [join(0, 5), ("kin", 5, 0), ("kin", 0, 5), ("kin", 5, 6)])[-3:],
                         [[0], [0], [-2]])
