"""Point 3: su_would."""

from tests.support import CallsTest, HUGE, picture, run

OWING = [("start", 2, 2), ("sign", 0, 1), ("owe", 0, 10), ("owe", 1, 7)]


class WouldTest(CallsTest):
    def test_shares(self):
        for p, q, kept in ((1, 1, 5), (1, 2, 3), (2, 1, 6), (9, 9, 5), (9, 1, 9), (1, 9, 1), (3, 4, 4), (5, 2, 7)):
            self.answers_last(OWING + [("would", 0, p, q)], [kept, 10 - kept])

    def test_one_of_them_0(self):
        for other in (1, 5, 9):
            self.answers_last(OWING + [("would", 0, 0, other)], [0, 10])
            self.answers_last(OWING + [("would", 0, other, 0)], [10, 0])

    def test_wrong_parts(self):
        for p, q in ((0, 0), (10, 0), (0, 10), (10, 9), (9, 10), (10, 10), (1, HUGE), (HUGE, 1), (HUGE, HUGE)):
            self.refuses(OWING, ("would", 0, p, q), -22)

    def test_owing_nothing_and_all(self):
        self.answers_last([("start", 1, 1), ("would", 0, 3, 4)], [0, 0])
        self.answers_last([("start", 1, 1)] + [("owe", 0, 1000000)] * 10 + [("would", 0, 1, 2)], [3333333, 6666667])

    def test_gone_or_never_there(self):
        gone = OWING + [("join", 0, 1, 1)]
        for i in (1, 2, 11, 12, 32, HUGE):
            for p, q in ((1, 1), (0, 0), (10, 1), (1, HUGE)):
                self.refuses(gone, ("would", i, p, q), -2)
        self.answers_last(gone + [("would", 0, 1, 1)], [8, 9])

    def test_one_that_parted(self):
        self.answers_last(OWING + [("part", 0, 0, 1, 2), ("would", 2, 1, 1)], [3, 4])

    def test_just_what_parting_makes_of_it(self):
        for owed in (0, 1, 7, 99, 1000000):
            begun = [("start", 1, 1)] + [("owe", 0, owed)] * min(owed, 1)
            for p in range(11):
                for q in range(11):
                    for mode in (0, 1):
                        rows = run(begun + [("would", 0, p, q), ("part", 0, mode, p, q), ("debt", 0), ("debt", 1)])
                        would, part, old, new = rows[-4:]
                        self.assertEqual(would, [-22] if part == [-22] else old + new, (owed, p, q))

    def test_changes_nothing(self):
        self.assertEqual(picture(OWING), picture(OWING + [("would", 0, 1, 2), ("would", 1, 9, 0)]))
        self.assertEqual(run(OWING + [("would", 0, 1, 2), ("would", 0, 1, 2)])[-2:], [[3, 7], [3, 7]])

    def test_told_where_there_is_no_room_for_another(self):
        """Of twelve states su_would says nothing: only su_part is refused there."""
        twelve = OWING + [("part", 0, 0, 1, 0)] * 10
        self.answers_last(twelve + [("part", 0, 0, 1, 2)], [-28])
        self.answers_last(twelve + [("would", 0, 1, 2)], [3, 7])
