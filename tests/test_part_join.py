"""Point 3: su_part, su_join."""

from tests.support import CallsTest, HUGE, run

OLD = [("start", 2, 4), ("sign", 0, 0), ("sign", 0, 3), ("owe", 0, 10)]
TWO = [("start", 3, 5), ("sign", 0, 0), ("sign", 0, 1), ("sign", 1, 1), ("sign", 1, 2), ("owe", 0, 10), ("owe", 1, 7)]
ONE_PART = ("part", 0, 0, 1, 1)


def debts(calls, i, j):
    return [row[0] for row in run(calls + [("debt", i), ("debt", j)])[-2:]]


class PartTest(CallsTest):
    def test_number_is_behind_all(self):
        for n in range(1, 5):
            self.assertEqual(run([("start", n, 1), ONE_PART, ONE_PART]), [[0], [n], [n + 1]])

    def test_number_is_behind_those_that_are_gone(self):
        self.answers_last([("start", 3, 1), ("join", 0, 2, 0), ONE_PART], [3])
        self.answers_last([("start", 1, 1), ONE_PART, ("join", 0, 1, 0), ONE_PART], [2])

    def test_bound_by_nothing(self):
        parted = OLD + [("part", 0, 0, 1, 1)]
        self.answers_last(parted + [("treaties", 2)], [0, 0, 9])
        self.answers_last(parted + [("treaties", 0)], [2, 9, 0])

    def test_bound_by_all(self):
        parted = OLD + [("part", 0, 1, 1, 1)]
        self.answers_last(parted + [("treaties", 2)], [2, 9, 9])
        self.answers_last(parted + [("treaties", 0)], [2, 9, 0])

    def test_may_follow_only_what_the_old_one_is_bound_by(self):
        """What the old one may follow alone is not handed on."""
        self.answers_last(OLD + [("part", 0, 0, 1, 1), ("part", 2, 0, 1, 1), ("treaties", 3)], [0, 0, 0])
        self.answers_last(OLD + [("part", 0, 0, 1, 1), ("follow", 2, 3), ("part", 2, 1, 1, 1), ("treaties", 3)],
                          [1, 8, 8])

    def test_the_new_one_goes_its_own_way(self):
        parted = OLD + [("part", 0, 1, 1, 1), ("leave", 2, 0), ("sign", 2, 1), ("pay", 2, 5)]
        self.assertEqual(run(parted + [("treaties", 0), ("treaties", 2), ("debt", 0), ("debt", 2)])[-4:],
                         [[2, 9, 0], [2, 10, 9], [5], [0]])

    def test_others_stay(self):
        self.assertEqual(run(OLD + [("sign", 1, 2), ("owe", 1, 4), ("part", 0, 1, 1, 1), ("treaties", 1),
                                    ("debt", 1)])[-2:], [[1, 4, 0], [4]])

    def test_shares(self):
        for p, q, kept in ((1, 1, 5), (1, 2, 3), (2, 1, 6), (9, 9, 5), (9, 1, 9), (1, 9, 1), (3, 4, 4), (5, 2, 7),
                           (0, 1, 0), (0, 9, 0), (1, 0, 10), (9, 0, 10)):
            for mode in (0, 1):
                self.assertEqual(debts(OLD + [("part", 0, mode, p, q)], 0, 2), [kept, 10 - kept], (p, q))

    def test_every_share_of_every_small_debt(self):
        for owed in (1, 2, 7, 17, 99, 1000000):
            for p in range(10):
                for q in range(10):
                    if p + q > 0:
                        kept, new = debts([("start", 1, 1), ("owe", 0, owed), ("part", 0, 0, p, q)], 0, 1)
                        self.assertTrue(kept * (p + q) <= owed * p < (kept + 1) * (p + q), (owed, p, q))
                        self.assertEqual(kept + new, owed)

    def test_share_of_nothing_and_of_all(self):
        self.assertEqual(debts([("start", 1, 1), ("part", 0, 0, 3, 4)], 0, 1), [0, 0])
        self.assertEqual(debts([("start", 1, 1)] + [("owe", 0, 1000000)] * 10 + [("part", 0, 0, 1, 2)], 0, 1),
                         [3333333, 6666667])

    def test_wrong_numbers(self):
        for mode, p, q in ((2, 1, 1), (HUGE, 1, 1), (0, 10, 1), (1, 1, 10), (0, 10, 10), (0, HUGE, 0), (0, 0, HUGE),
                           (0, 10, 0), (0, 0, 10), (0, 0, 0), (1, 0, 0), (2, 10, 10), (2, 0, 0)):
            self.refuses(OLD, ("part", 0, mode, p, q), -22)

    def test_twelve_and_no_more(self):
        for n in range(1, 5):
            twelve = [("start", n, 1), ("sign", 0, 0), ("owe", 0, 50)] + [ONE_PART] * (12 - n)
            self.answers_last(twelve, [11])
            self.answers_last(twelve + [("sign", 11, 0), ("bound", 0)], [2, 2049])
            for i in range(12):
                self.refuses(twelve, ("part", i, 1, 1, 1), -28)

    def test_twelve_of_whom_some_are_gone(self):
        twelve = [("start", 4, 1)] + [ONE_PART] * 8
        for gone in range(1, 12):
            self.refuses(twelve + [("join", 0, gone, 0)], ONE_PART, -28)
        self.refuses(twelve + [("join", 0, j, 1) for j in range(1, 12)], ONE_PART, -28)

    def test_twelfth_where_some_are_gone(self):
        eleven = [("start", 4, 1)] + [ONE_PART] * 7 + [("join", 0, 10, 0), ("join", 0, 1, 0)]
        self.answers_last(eleven + [ONE_PART], [11])
        self.refuses(eleven + [ONE_PART], ONE_PART, -28)

    def test_wrong_numbers_come_ahead_of_twelve(self):
        twelve = [("start", 4, 1)] + [ONE_PART] * 8
        for mode, p, q in ((2, 1, 1), (0, 10, 1), (0, 1, 10), (0, 0, 0)):
            self.refuses(twelve, ("part", 0, mode, p, q), -22)
        self.refuses(twelve + [("join", 0, 1, 0)], ("part", 1, 0, 1, 1), -2)
        self.refuses(twelve, ("part", 12, 0, 1, 1), -2)


class JoinTest(CallsTest):
    def test_how_many_are_there(self):
        self.assertEqual(run([("start", 4, 1), ("join", 3, 0, 0), ("join", 1, 3, 1), ("join", 1, 2, 0)])[1:],
                         [[3], [2], [1]])
        self.answers_last([("start", 4, 1), ("join", 3, 0, 0), ("part", 1, 0, 1, 1), ("join", 4, 3, 0)], [3])

    def test_bound_by_what_both_were(self):
        self.answers_last(TWO + [("join", 0, 1, 1), ("treaties", 0)], [3, 7, 6])
        self.answers_last(TWO + [("join", 1, 0, 1), ("treaties", 1)], [3, 7, 3])

    def test_bound_by_what_it_was_alone(self):
        self.answers_last(TWO + [("join", 0, 1, 0), ("treaties", 0)], [2, 3, 6])
        self.answers_last(TWO + [("join", 1, 0, 0), ("treaties", 1)], [2, 6, 3])

    def test_owes_what_both_owed(self):
        for mode in (0, 1):
            self.answers_last(TWO + [("join", 0, 1, mode), ("debt", 0)], [17])
            self.answers_last(TWO + [("join", 1, 0, mode), ("debt", 1)], [17])

    def test_may_still_follow_what_it_could(self):
        parted = [("start", 2, 4), ("sign", 0, 0), ("part", 0, 0, 1, 1), ("sign", 1, 2)]
        for mode, wanted in ((0, [0, 0, 5]), (1, [1, 4, 5])):
            self.answers_last(parted + [("join", 2, 1, mode), ("treaties", 2)], wanted)

    def test_what_the_other_may_follow_alone_is_not_handed_on(self):
        parted = [("start", 2, 4), ("sign", 0, 0), ("part", 0, 0, 1, 1), ("sign", 2, 3)]
        for mode, wanted in ((0, [0, 0, 8]), (1, [1, 8, 8])):
            self.answers_last(parted + [("join", 1, 2, mode), ("treaties", 1)], wanted)

    def test_the_other_is_gone(self):
        for mode in (0, 1):
            joined = TWO + [("join", 0, 1, mode)]
            self.answers_last(joined + [("treaties", 1)], [-2])
            self.answers_last(joined + [("debt", 1)], [-2])
            self.answers_last(joined + [("bound", 2)], [mode, mode])

    def test_the_third_stays(self):
        joined = [("start", 3, 2), ("sign", 2, 1), ("owe", 2, 6), ("sign", 1, 0), ("join", 0, 1, 1)]
        self.assertEqual(run(joined + [("treaties", 2), ("debt", 2)])[-2:], [[1, 2, 0], [6]])

    def test_taken_up_in_turn(self):
        chain = TWO + [("sign", 2, 4), ("owe", 2, 100), ("join", 1, 2, 1), ("join", 0, 1, 1)]
        self.assertEqual(run(chain + [("treaties", 0), ("debt", 0)])[-3:], [[1], [4, 23, 22], [117]])

    def test_the_same(self):
        for mode in (0, 1, 2):
            for i in range(3):
                self.refuses(TWO, ("join", i, i, mode), -22)

    def test_wrong_mode(self):
        for mode in (2, 3, HUGE):
            self.refuses(TWO, ("join", 0, 1, mode), -22)

    def test_either_gone(self):
        gone = TWO + [("join", 0, 1, 1)]
        for mode in (0, 1, 2, HUGE):
            for i, j in ((0, 1), (1, 0), (2, 1), (1, 2), (1, 1), (3, 3), (0, 3), (3, 0), (HUGE, HUGE)):
                self.refuses(gone, ("join", i, j, mode), -2)
