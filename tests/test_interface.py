import unittest

from bladecrane.hall import answers
from tests.helper import (
    HIGHEST, ask, at, best, blade, cancel, crane, drop, follow, free_at, idle, inside, job, lifts, mould, order, over,
    pass_by, plan, put, start, state, waiting)

EVERY_OTHER_CALL = [
    mould(0), blade(0, 5), drop(0), best(0), put(0), at(0, 0, 0), cancel(0), pass_by(1), order([]), order([0, 1]),
    plan(), follow(), over(), crane(0), inside(0, 0), free_at(0), lifts(0), idle(0), job(0), waiting(), state(),
    mould(9), blade(9, 0), pass_by(0), at(HIGHEST, HIGHEST, HIGHEST), crane(HIGHEST), inside(HIGHEST, HIGHEST),
    free_at(HIGHEST), lifts(HIGHEST), idle(HIGHEST), job(HIGHEST),
]
# All 21 calls, each with what it answers.
ALL_CALLS = [
    (start(10, 5), [0]), (mould(1), [0]), (mould(2), [1]), (blade(1, 20), [0]), (blade(2, 20), [1]),
    (blade(1, 3), [2]), (best(1), [30, 1, 0, 20]), (put(1), [0, 1, 0, 20]), (over(), [30]),
    # Ready and lifted at 43, out at 53, clean at 58.
    (at(2, 0, 40), [1, 43]), (job(1), [0, 1, 40, 43, 43]), (crane(42), [-33]), (crane(43), [1]),
    (inside(0, 57), [1, 3]), (free_at(0), [58]), (lifts(15), [30]), (lifts(34), [53]), (idle(0), [40]),
    (idle(1), [18]), (waiting(), [1, 0]), (state(), [0, 2, 1, 2, 0]), (plan(), [88, 0]), (order([0]), [88]),
    (cancel(1), [1]), (waiting(), [2, 0, 1]), (order([0, 1]), [58]), (plan(), [48, 1, 0]), (follow(), [48]),
    (job(1), [0, 1, 0, 3, 3]), (job(2), [0, 1, 18, 38, 38]), (waiting(), [0]), (pass_by(35), [35]),
    (state(), [35, 2, 0, 1, 2]), (inside(0, 35), [2, 0]), (inside(1, 35), [-33]), (blade(2, 1), [0]), (drop(0), [1]),
    (follow(), [48]), (job(0), [-2]), (lifts(34), [-22]), (idle(2), [-2]), (state(), [35, 2, 0, 1, 2]),
]


class TheList(unittest.TestCase):
    def test_whole_answer_number_by_number(self):
        calls = [0, 5, 10, 1, 2, 2, 2, 30, 4, 0, 9, 1, 0, 10, 5, 0, 8, 7, 3, 0]
        self.assertEqual(
            answers(calls),
            [1, 0, 1, 0, 1, 0, 4, 35, 0, 0, 30, 1, 35, 2, 35, 0, 4, 0, 0, 0, 30, 1, 7, 1, -2])

    def test_all_21_calls(self):
        calls = [number for call, told in ALL_CALLS for number in call]
        self.assertEqual({call[0] for call, told in ALL_CALLS}, set(range(21)))
        self.assertEqual(answers(calls), [number for call, told in ALL_CALLS for number in [len(told)] + told])

    def test_all_21_calls_leave_the_list_and_answer_the_same_again(self):
        calls = [number for call, told in ALL_CALLS for number in call]
        before = list(calls)
        first = answers(calls)
        self.assertEqual(calls, before)
        self.assertEqual(answers(state()), [1, -11])
        self.assertEqual(answers(calls), first)
        self.assertEqual(calls, before)

    def test_calls_without_numbers_stand_close_together(self):
        self.assertEqual(answers([0, 1, 0, 10, 11, 12, 19, 20, 12]),
                         [1, 0, 1, 0, 1, 0, 1, 0, 1, 0, 5, 0, 0, 0, 0, 0, 1, 0])

    def test_every_call_up_to_plan(self):
        self.assertEqual(
            ask(start(10, 5), mould(1), mould(2), blade(1, 20), blade(2, 20), blade(1, 3), best(1), order([2, 0]),
                plan(), put(1), put(0), at(2, 0, 45), cancel(2), drop(0), pass_by(45), plan()),
            [[0], [0], [1], [0], [1], [2], [30, 1, 0, 20], [48], [48, 1, 2, 0], [0, 1, 0, 20],
             [1, 0, 0, 30], [2, 48], [0], [3], [45], [45]])

    def test_a_refusal_is_its_number_alone(self):
        self.assertEqual(answers([4, 0]), [1, -11])
        self.assertEqual(answers([0, 1, 0, 5, 0, 6, 0, 0, 0]), [1, 0, 1, -2, 1, -2])

    def test_what_is_handed_in_stays_and_nothing_is_kept(self):
        calls = sum([start(3, 4), mould(0), blade(0, 9), blade(0, 9), order([1, 0]), plan(), put(0), pass_by(3)], [])
        before = list(calls)
        first = answers(calls)
        self.assertEqual(calls, before)
        self.assertEqual(answers(calls), first)
        self.assertEqual(answers(mould(0)), [1, -11])
        self.assertEqual(answers(calls), first)

    def test_what_is_given_back_is_a_new_list_of_whole_numbers(self):
        calls = start(1, 0) + mould(0) + blade(0, 1) + plan()
        first = answers(calls)
        self.assertIs(type(first), list)
        self.assertEqual([type(number) for number in first], [int] * len(first))
        first.append(7)
        self.assertEqual(answers(calls), first[:-1])

    def test_two_hundred_calls_with_rows(self):
        calls = [start(60, 60), mould(0)] + [order(range(60))] * 198
        self.assertEqual(ask(*calls), [[0], [0]] + [[-33]] * 198)


class AheadOfAStart(unittest.TestCase):
    def test_every_other_call_is_refused(self):
        self.assertEqual(ask(*EVERY_OTHER_CALL), [[-11]] * len(EVERY_OTHER_CALL))

    def test_a_long_row_is_passed_over(self):
        self.assertEqual(ask(order(range(60)), order([10] * 60), start(1, 1)), [[-11], [-11], [0]])

    def test_behind_a_start_that_was_refused(self):
        for refused in [start(0, 0), start(61, 0), start(1, 61)]:
            self.assertEqual(ask(refused, *EVERY_OTHER_CALL), [[-22]] + [[-11]] * len(EVERY_OTHER_CALL))

    def test_what_was_refused_left_nothing(self):
        self.assertEqual(
            ask(mould(0), blade(0, 5), pass_by(5), start(1, 0), drop(0), mould(2), pass_by(1)),
            [[-11], [-11], [-11], [0], [-2], [0], [1]])


class ASecondStart(unittest.TestCase):
    SET_UP = [start(10, 5), mould(0), mould(1), blade(0, 20), blade(1, 20), put(0), pass_by(7)]

    def test_nothing_is_there_at_minute_0(self):
        self.assertEqual(
            ask(*self.SET_UP, start(2, 1), drop(1), cancel(0), order([]), mould(3), blade(3, 4), put(0),
                pass_by(1))[7:],
            [[0], [-2], [-2], [0], [0], [0], [0, 0, 0, 4], [1]])

    def test_its_lift_and_clean_hold(self):
        self.assertEqual(
            ask(start(10, 5), start(2, 1), mould(0), blade(0, 4), put(0), blade(0, 4), best(0))[4:],
            [[0, 0, 0, 4], [0], [13, 0, 7, 11]])

    def test_refused_it_changes_nothing(self):
        for refused in [start(0, 5), start(61, 5), start(10, 61), start(HIGHEST, HIGHEST)]:
            self.assertEqual(
                ask(*self.SET_UP, refused, drop(1), order([]), blade(0, 3), best(0), pass_by(1), mould(0))[7:],
                [[-22], [20], [30], [0], [48, 0, 35, 38], [8], [2]])


if __name__ == "__main__":
    unittest.main()
