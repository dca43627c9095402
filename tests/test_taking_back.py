"""Point 6, and what point 1 says of changes: su_back, su_again, su_state."""

from tests.support import CallsTest, HUGE, but_for_changes, last, picture, picture_calls, run

BACK = ("back",)
AGAIN = ("again",)
STATE = ("state",)
# States 4 (may follow 0 and 3), 5 (bound by 0 and 3); 3 is gone, 6 parted from 5.
BUSY = [("start", 4, 5), ("sign", 0, 0), ("sign", 0, 3), ("owe", 0, 100), ("part", 0, 0, 1, 2), ("part", 0, 1, 2, 1),
        ("owe", 3, 7), ("sign", 3, 2), ("join", 1, 3, 0), ("part", 5, 0, 1, 1), ("sign", 2, 4)]
# Each kind of change, in both modes, also of states that parted or that took up another.
EACH_CHANGE = [("sign", 1, 1), ("sign", 6, 0), ("leave", 0, 3), ("leave", 5, 0), ("owe", 2, 1000000), ("owe", 4, 1),
               ("pay", 1, 7), ("pay", 4, 3), ("part", 0, 0, 1, 1), ("part", 0, 1, 0, 3), ("part", 4, 1, 3, 0),
               ("part", 6, 0, 9, 9), ("join", 0, 1, 0), ("join", 4, 0, 1), ("join", 2, 5, 1), ("join", 6, 2, 0),
               ("join", 0, 4, 1), ("follow", 4, 0), ("follow", 4, 3), ("follow", 1, 2)]
ASKED = picture_calls()


def owing(count):
    """So many changes, each seen in what state 0 owes: 1, 3, 6, 10 .."""
    return [("start", 1, 1)] + [("owe", 0, k) for k in range(1, count + 1)]


def owed(count):
    return count * (count + 1) // 2


class BackTest(CallsTest):
    def test_none(self):
        self.refuses([("start", 3, 2)], BACK, -2)
        self.refuses([("start", 3, 2), ("sign", 0, 0), BACK], BACK, -2)
        self.refuses([("start", 0, 2), ("start", 3, 2)], BACK, -2)

    def test_one(self):
        self.assertEqual(run(owing(1) + [STATE, BACK, ("debt", 0), STATE]),
                         [[0], [1], [1, 1, 1, 1, 0], [0], [0], [1, 1, 1, 0, 1]])

    def test_several(self):
        for count in range(2, 20):
            rows = run(owing(count) + [BACK, ("debt", 0), STATE] * count + [BACK])[count + 1:]
            wanted = []
            for left in reversed(range(count)):
                wanted += [[left], [owed(left)], [1, 1, 1, left, count - left]]
            self.assertEqual(rows, wanted + [[-2]])

    def test_twenty(self):
        rows = run(owing(20) + [STATE] + [BACK] * 21 + [("debt", 0), STATE])[21:]
        self.assertEqual(rows, [[1, 1, 1, 20, 0]] + [[left] for left in reversed(range(20))]
                         + [[-2], [0], [1, 1, 1, 0, 20]])

    def test_more_than_twenty(self):
        for count in (21, 22, 25, 40, 41, 100):
            rows = run(owing(count) + [STATE] + [BACK] * 21 + [("debt", 0), STATE])[count + 1:]
            self.assertEqual(rows, [[1, 1, 1, 20, 0]] + [[left] for left in reversed(range(20))]
                             + [[-2], [owed(count - 20)], [1, 1, 1, 0, 20]])

    def test_a_change_that_fell_off_does_not_come_back(self):
        """Of 25 the first 5 can't be taken back any more, also when later ones are."""
        calls = owing(25) + [BACK] * 5 + [("owe", 0, 1000)]
        self.answers_last(calls + [STATE], [1, 1, 1, 16, 0])
        rows = run(calls + [BACK] * 17 + [("debt", 0)])[-18:]
        self.assertEqual(rows, [[left] for left in reversed(range(16))] + [[-2], [owed(5)]])

    def test_back_at_twenty_again_and_again(self):
        calls = owing(30) + [BACK, ("owe", 0, 50)] * 30
        self.answers_last(calls + [STATE], [1, 1, 1, 20, 0])
        self.answers_last(calls + [BACK, ("debt", 0)], [owed(29)])


class AgainTest(CallsTest):
    def test_none(self):
        self.refuses([("start", 3, 2)], AGAIN, -2)
        self.refuses(owing(3), AGAIN, -2)
        self.refuses(owing(3) + [BACK, AGAIN], AGAIN, -2)

    def test_one(self):
        self.assertEqual(run(owing(1) + [BACK, AGAIN, ("debt", 0), STATE])[2:], [[0], [0], [1], [1, 1, 1, 1, 0]])

    def test_several(self):
        for count in range(2, 21):
            rows = run(owing(count) + [BACK] * count + [AGAIN, ("debt", 0), STATE] * count + [AGAIN])[2 * count + 1:]
            wanted = []
            for done in range(1, count + 1):
                wanted += [[count - done], [owed(done)], [1, 1, 1, done, count - done]]
            self.assertEqual(rows, wanted + [[-2]])

    def test_twenty_of_more(self):
        for count in (21, 25, 100):
            calls = owing(count) + [BACK] * 21 + [AGAIN] * 21
            self.assertEqual(run(calls)[-21:], [[left] for left in reversed(range(20))] + [[-2]])
            self.assertEqual(picture(calls), picture(owing(count)))
            self.answers_last(calls + [STATE], [1, 1, 1, 20, 0])

    def test_some_of_those_taken_back(self):
        calls = owing(9) + [BACK] * 6 + [AGAIN] * 2
        self.assertEqual(run(calls + [("debt", 0), STATE])[-4:], [[5], [4], [owed(5)], [1, 1, 1, 5, 4]])
        self.assertEqual(run(calls + [BACK, ("debt", 0), AGAIN, AGAIN, ("debt", 0)])[-5:],
                         [[4], [owed(4)], [4], [3], [owed(6)]])

    def test_to_and_fro(self):
        calls = owing(2) + [BACK, AGAIN] * 100 + [BACK, BACK, AGAIN] * 50
        self.answers_last(owing(2) + [BACK, AGAIN] * 100 + [STATE], [1, 1, 1, 2, 0])
        self.answers_last(calls + [("debt", 0)], [1])


class EachChangeTest(CallsTest):
    def test_every_kind_is_there(self):
        self.assertEqual({call[0] for call in EACH_CHANGE}, {"sign", "leave", "owe", "pay", "part", "join", "follow"})

    def test_each_is_one_change(self):
        for call in EACH_CHANGE:
            row = run(BUSY + [call, STATE])[-2:]
            self.assertGreaterEqual(row[0][0], 0, call)
            self.assertEqual(row[1][3:], [11, 0], call)

    def test_taken_back_all_is_as_it_was(self):
        before = but_for_changes(picture(BUSY))
        for call in EACH_CHANGE:
            self.assertNotEqual(but_for_changes(picture(BUSY + [call])), before, call)
            self.assertEqual(but_for_changes(picture(BUSY + [call, BACK])), before, call)
            self.answers_last(BUSY + [call, BACK], [10])
            self.answers_last(BUSY + [call, BACK, STATE], [7, 5, 119, 10, 1])

    def test_done_again_all_is_as_behind_it(self):
        for call in EACH_CHANGE:
            self.assertEqual(picture(BUSY + [call, BACK, AGAIN]), picture(BUSY + [call]), call)
            self.answers_last(BUSY + [call, BACK, AGAIN], [0])

    def test_two_changes_one_behind_another(self):
        for first in EACH_CHANGE:
            for second in EACH_CHANGE:
                calls = BUSY + [first, second]
                if last(calls)[0] >= 0:
                    self.assertEqual(but_for_changes(picture(calls + [BACK])), but_for_changes(picture(calls[:-1])))
                    self.assertEqual(picture(calls + [BACK, BACK, AGAIN, AGAIN]), picture(calls))

    def test_a_parted_states_number_is_free_again(self):
        for mode in (0, 1):
            parted = BUSY + [("part", 4, mode, 1, 1), BACK]
            for call in (("from", 7), ("line", 7), ("heirs", 7), ("kin", 7, 7), ("kin", 0, 7), ("debt", 7),
                         ("treaties", 7), ("join", 0, 7, 0), ("would", 7, 1, 1)):
                self.answers_last(parted + [call], [-2])
            self.assertEqual(run(parted + [("part", 0, mode, 1, 1), ("from", 7), ("line", 7)])[-3:],
                             [[7], [1, 0], [2, 129]])

    def test_there_is_room_again_behind_twelve(self):
        twelve = [("start", 4, 1)] + [("part", 0, 0, 1, 1)] * 8
        self.assertEqual(run(twelve + [("part", 1, 0, 1, 1), BACK, ("part", 1, 0, 1, 1), ("part", 1, 0, 1, 1),
                                       ("from", 11)])[-5:], [[-28], [7], [11], [-28], [2, 0]])

    def test_who_was_taken_up_is_there_again(self):
        for mode in (0, 1):
            joined = BUSY + [("join", 2, 4, mode), ("join", 6, 2, mode)]
            self.answers_each(joined, {("from", 4): [1, 3], ("from", 2): [0, 7], ("heirs", 4): [1, 64]})
            self.answers_each(joined + [BACK], {("from", 2): [0, 0], ("heirs", 4): [1, 4]})
            self.answers_each(joined + [BACK, BACK], {("from", 4): [1, 0], ("heirs", 4): [1, 16], ("debt", 4): [67],
                                                      ("treaties", 4): [0, 0, 9], ("treaties", 2): [1, 16, 0]})

    def test_what_is_owed_is_free_again(self):
        full = [("start", 2, 1)] + [("owe", 0, 1000000)] * 10
        self.assertEqual(run(full + [("owe", 1, 1), BACK, ("owe", 1, 1000000), ("total",)])[-4:],
                         [[-75], [9], [1000000], [10000000, 2]])


class AnotherChangeTest(CallsTest):
    def test_those_taken_back_cannot_be_done_again(self):
        for call in EACH_CHANGE:
            taken_back = BUSY + [("sign", 1, 4), ("owe", 0, 9), ("sign", 2, 3), BACK, BACK, BACK]
            self.answers_last(taken_back + [STATE], [7, 5, 119, 10, 3])
            self.assertEqual(last(taken_back + [call, STATE])[3:], [11, 0], call)
            self.refuses(taken_back + [call], AGAIN, -2)
            self.assertEqual(picture(taken_back + [call]), picture(BUSY + [call]))

    def test_the_same_change_made_anew(self):
        calls = owing(5) + [BACK, BACK, ("owe", 0, 4)]
        self.assertEqual(run(calls + [AGAIN, ("debt", 0), STATE])[-3:], [[-2], [10], [1, 1, 1, 4, 0]])

    def test_behind_some_done_again(self):
        calls = owing(5) + [BACK] * 4 + [AGAIN, ("owe", 0, 100), AGAIN]
        self.assertEqual(run(calls + [STATE, BACK, ("debt", 0), BACK, ("debt", 0), BACK, BACK])[-8:],
                         [[-2], [1, 1, 1, 3, 0], [2], [3], [1], [1], [0], [-2]])

    def test_behind_all_twenty(self):
        calls = owing(30) + [BACK] * 20 + [("pay", 0, 55)]
        self.assertEqual(run(calls + [AGAIN, STATE, BACK, ("debt", 0), BACK, AGAIN, ("debt", 0)])[-7:],
                         [[-2], [1, 1, 1, 1, 0], [0], [55], [-2], [0], [0]])

    def test_what_is_kept_is_not_touched_by_later_changes(self):
        calls = BUSY + [("sign", 4, 1), BACK, ("leave", 0, 0), ("owe", 0, 5), BACK, ("join", 4, 0, 1), BACK, BACK]
        self.assertEqual(but_for_changes(picture(calls)), but_for_changes(picture(BUSY)))
        self.assertEqual(picture(calls + [AGAIN, AGAIN]),
                         picture(BUSY + [("leave", 0, 0), ("join", 4, 0, 1)]))


class NoChangeTest(CallsTest):
    REFUSED = [("start", 0, 1), ("start", 1, 9), ("start", HUGE, HUGE), ("sign", 3, 0), ("sign", 0, 0), ("sign", 0, 5),
               ("leave", 0, 1), ("leave", 7, 0), ("owe", 0, 0), ("owe", 3, 1), ("owe", 0, 1000001), ("pay", 0, 1000),
               ("pay", 0, 0), ("pay", 3, 1), ("part", 0, 2, 1, 1), ("part", 0, 0, 0, 0), ("part", 3, 0, 1, 1),
               ("join", 0, 0, 0), ("join", 0, 3, 0), ("join", 0, 1, 2), ("follow", 0, 1), ("follow", 5, 0),
               ("follow", 0, 5), ("treaties", 3), ("bound", 5), ("common", 0, 0), ("common", 0, 3), ("debt", 7),
               ("from", 7), ("line", 7), ("heirs", 7), ("kin", 0, 7), ("whole", 5), ("could", 3), ("would", 0, 0, 0),
               ("would", 3, 1, 1)]

    def setUp(self):
        self.calls = BUSY + [("sign", 1, 4), ("owe", 0, 9), ("part", 2, 1, 1, 1), BACK, BACK]
        self.answers_last(self.calls + [STATE], [7, 5, 119, 11, 2])

    def test_refused(self):
        for call in self.REFUSED:
            self.assertLess(last(self.calls + [call])[0], 0, call)
            self.assertEqual(picture(self.calls + [call]), picture(self.calls), call)
            self.assertEqual(picture(self.calls + [call, AGAIN, call, AGAIN]), picture(self.calls[:-2]), call)

    def test_refused_for_want_of_room(self):
        full = [("start", 4, 1)] + [("owe", 0, 1000000)] * 10 + [("part", 0, 0, 1, 1)] * 8
        full += [("sign", 0, 0), ("sign", 1, 0), BACK]
        for call, number in ((("owe", 0, 1), -75), (("part", 0, 0, 1, 1), -28)):
            self.refuses(full, call, number)
            self.answers_last(full + [call, AGAIN], [0])

    def test_asked(self):
        self.assertEqual(picture(self.calls + ASKED), picture(self.calls))
        self.assertEqual(picture(self.calls + ASKED + [AGAIN, AGAIN]), picture(self.calls[:-2]))

    def test_back_and_again_refused(self):
        none = [("start", 1, 1), ("owe", 0, 1), BACK]
        self.refuses(none, BACK, -2)
        self.answers_last(none + [BACK, BACK, AGAIN], [0])
        self.answers_last(none + [AGAIN, AGAIN, AGAIN, BACK], [0])


class StartedAgainTest(CallsTest):
    def test_there_are_no_changes(self):
        for behind in ([], [BACK], [BACK] * 5, [BACK] * 10, [BACK, BACK, AGAIN]):
            calls = BUSY + behind + [("start", 2, 3)]
            self.assertEqual(picture(calls), picture([("start", 2, 3)]))
            self.answers_last(calls + [STATE], [2, 3, 3, 0, 0])
            self.refuses(calls, BACK, -2)
            self.refuses(calls, AGAIN, -2)

    def test_only_those_behind_it(self):
        calls = BUSY + [BACK, ("start", 2, 3), ("sign", 0, 2), ("sign", 1, 2)]
        self.assertEqual(run(calls + [BACK, BACK, BACK, STATE, AGAIN, AGAIN, AGAIN])[-7:],
                         [[1], [0], [-2], [2, 3, 3, 0, 2], [1], [0], [-2]])

    def test_refused(self):
        for wrong in (("start", 0, 1), ("start", 5, 1), ("start", 1, 0), ("start", 1, 9), ("start", HUGE, HUGE)):
            self.refuses(BUSY + [BACK, BACK], wrong, -22)
            self.assertEqual(run(BUSY + [BACK, BACK, wrong, AGAIN, BACK, STATE])[-3:], [[1], [8], [6, 5, 55, 8, 2]])


class StateTest(CallsTest):
    def test_at_the_start(self):
        for n in range(1, 5):
            for t in range(1, 9):
                self.answers_last([("start", n, t), STATE], [n, t, 2 ** n - 1, 0, 0])

    def test_states_that_parted(self):
        for count in range(1, 12):
            self.answers_last([("start", 1, 1)] + [("part", 0, 0, 1, 1)] * count + [STATE],
                              [count + 1, 1, 2 ** (count + 1) - 1, count, 0])

    def test_states_that_are_gone(self):
        joined = [("start", 4, 3), ("join", 3, 0, 0), ("join", 1, 3, 1)]
        self.answers_last(joined + [STATE], [4, 3, 6, 2, 0])
        self.answers_last(joined + [("part", 2, 0, 1, 1), ("join", 4, 1, 0), STATE], [5, 3, 20, 4, 0])
        self.answers_last(joined + [BACK, STATE], [4, 3, 14, 1, 1])
        self.answers_last(joined + [BACK, BACK, STATE], [4, 3, 15, 0, 2])

    def test_one_left_of_twelve(self):
        calls = [("start", 1, 8)] + [("part", 0, 0, 1, 1)] * 11 + [("join", 11, j, 0) for j in range(11)]
        self.answers_last(calls + [STATE], [12, 8, 2048, 20, 0])
        self.answers_last(calls + [BACK] * 20 + [STATE], [3, 8, 7, 0, 20])

    def test_refused_and_asked_are_not_counted(self):
        self.answers_last([("start", 2, 2), ("sign", 0, 0), ("sign", 0, 0), ("debt", 0), ("owe", 0, 0), STATE],
                          [2, 2, 3, 1, 0])
