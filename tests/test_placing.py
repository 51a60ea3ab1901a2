import unittest

from tests.helper import HIGHEST, ask, ask_last, at, best, blade, cancel, drop, mould, order, pass_by, put, start

# 12 jobs, one behind another in the one mould of kind 0 (each 10 in it, 5 lifted); one of its kind waits.
TWELVE_JOBS = [start(5, 0), mould(0), mould(1)] + [blade(0, 10), put(0)] * 12 + [blade(0, 10)]


class Best(unittest.TestCase):
    def test_it_tells_end_mould_begin_and_lift(self):
        self.assertEqual(
            ask_last(start(7, 3), mould(1), mould(0), pass_by(100), blade(0, 40), best(0)), [147, 1, 100, 140])

    def test_it_changes_nothing(self):
        self.assertEqual(
            ask(start(7, 3), mould(0), blade(0, 40), best(0), best(0), order([]), cancel(0), drop(0))[3:],
            [[47, 0, 0, 40], [47, 0, 0, 40], [0], [-2], [40]])

    def test_refusals(self):
        self.assertEqual(
            ask(start(7, 3), mould(0), best(0), blade(1, 4), best(0), best(1), best(HIGHEST))[2:],
            [[-2], [0], [-33], [-2], [-2]])

    def test_no_such_blade_goes_ahead_of_no_mould(self):
        self.assertEqual(ask_last(start(7, 3), best(0)), [-2])

    def test_of_like_moulds_the_first(self):
        self.assertEqual(ask_last(start(7, 3), mould(2), mould(1), mould(1), mould(1), blade(1, 4), best(0)),
                         [11, 1, 0, 4])

    def test_the_mould_that_is_free_sooner(self):
        self.assertEqual(
            ask_last(start(2, 1), mould(0), mould(0), blade(0, 50), put(0), blade(0, 20), put(0), blade(0, 5), best(0)),
            [30, 1, 23, 28])

    def test_the_lift_counts_and_not_when_the_mould_is_free(self):
        # Mould 1 is free at 13, mould 0 at 23; out of both it would be lifted from 50 on, so the first is the best.
        calls = [start(10, 0), mould(0), mould(0), mould(1), blade(0, 3), at(0, 1, 0), blade(0, 5), at(0, 0, 0)]
        self.assertEqual(
            ask(*calls, blade(1, 40), put(0), blade(0, 26), best(0))[5:],
            [[0, 3], [0], [1, 13], [0], [2, 2, 0, 40], [0], [60, 0, 23, 50]])

    def test_it_is_told_though_there_are_12_jobs(self):
        self.assertEqual(ask_last(*TWELVE_JOBS, best(0)), [195, 0, 180, 190])


class TheCrane(unittest.TestCase):
    def test_two_ready_at_one_minute(self):
        self.assertEqual(
            ask(start(10, 0), mould(0), mould(1), blade(0, 30), blade(1, 30), put(1), put(0))[5:],
            [[0, 1, 0, 30], [1, 0, 0, 40]])

    def test_two_lifts_that_touch(self):
        self.assertEqual(
            ask(start(10, 0), mould(0), mould(1), mould(2), blade(0, 30), blade(1, 40), blade(2, 20), put(0), put(1),
                put(2))[7:],
            [[0, 0, 0, 30], [1, 1, 0, 40], [2, 2, 0, 20]])

    def test_one_minute_too_near_on_either_side(self):
        self.assertEqual(
            ask(start(10, 0), mould(0), mould(1), mould(2), blade(0, 30), blade(1, 39), blade(2, 21), put(0), put(1),
                put(2))[7:],
            [[0, 0, 0, 30], [1, 1, 0, 40], [2, 2, 0, 50]])

    def test_a_lift_between_two_others(self):
        # Lifts from 30 and from 50: there's just room from 40 on.
        calls = [start(10, 0), mould(0), mould(1), mould(2), blade(0, 30), put(0), blade(1, 50), put(0)]
        for minutes, lifted in [(20, 20), (21, 40), (35, 40), (40, 40), (41, 60), (60, 60), (61, 61)]:
            self.assertEqual(ask_last(*calls, blade(2, minutes), put(0)), [2, 2, 0, lifted], minutes)

    def test_a_gap_that_is_too_short_is_passed_over(self):
        calls = [start(10, 0), mould(0), mould(1), mould(2), blade(0, 30), put(0), blade(1, 49), put(0)]
        self.assertEqual(ask_last(*calls, blade(2, 25), put(0)), [2, 2, 0, 59])

    def test_the_lifts_need_not_come_in_the_order_of_the_jobs(self):
        calls = [start(10, 0), mould(0), mould(1), mould(2), mould(3), blade(0, 50), put(0), blade(1, 40), put(0),
                 blade(2, 30), put(0)]
        self.assertEqual(ask_last(*calls, blade(3, 25), best(0)), [70, 3, 0, 60])

    def test_a_lift_of_a_job_that_is_not_clean_yet_is_over(self):
        calls = [start(10, 60), mould(0), mould(1), blade(0, 5), put(0), pass_by(14), blade(1, 1), best(0)]
        self.assertEqual(ask_last(*calls), [25, 1, 14, 15])


class Put(unittest.TestCase):
    def test_it_is_a_job_and_waits_no_more(self):
        self.assertEqual(
            ask(start(7, 3), mould(0), blade(0, 40), put(0), put(0), best(0), order([]), cancel(0))[3:],
            [[0, 0, 0, 40], [-2], [-2], [47], [0]])

    def test_one_behind_another_in_one_mould(self):
        self.assertEqual(
            ask(start(7, 3), mould(0), blade(0, 40), blade(0, 20), blade(0, 1), put(1), put(0), put(2))[5:],
            [[0, 0, 0, 20], [1, 0, 30, 70], [2, 0, 80, 81]])

    def test_no_cleaning(self):
        self.assertEqual(
            ask(start(7, 0), mould(0), blade(0, 40), blade(0, 20), put(0), put(1))[4:],
            [[0, 0, 0, 40], [1, 0, 47, 67]])

    def test_waiting_for_the_crane_holds_the_mould(self):
        self.assertEqual(
            ask(start(20, 5), mould(0), mould(1), blade(0, 30), blade(1, 25), blade(1, 1), put(0), put(1), put(2))[6:],
            [[0, 0, 0, 30], [1, 1, 0, 50], [2, 1, 75, 76]])

    def test_it_comes_behind_the_last_job_though_there_is_room_ahead(self):
        self.assertEqual(
            ask(start(1, 0), mould(0), blade(0, 5), at(0, 0, 100), blade(0, 5), put(0))[3:],
            [[0, 105], [0], [1, 0, 106, 111]])

    def test_the_last_of_the_moulds_jobs_counts_and_not_the_latest_made(self):
        self.assertEqual(
            ask_last(start(1, 2), mould(0), blade(0, 5), at(0, 0, 100), blade(0, 5), at(0, 0, 0), blade(0, 5), put(0)),
            [2, 0, 108, 113])

    def test_a_mould_that_is_clean_just_now(self):
        calls = [start(7, 3), mould(0), blade(0, 40), put(0), blade(0, 9)]
        self.assertEqual(ask(*calls, pass_by(49), put(0))[5:], [[49], [1, 0, 50, 59]])
        self.assertEqual(ask(*calls, pass_by(50), put(0))[5:], [[50], [0, 0, 50, 59]])
        self.assertEqual(ask(*calls, pass_by(51), put(0))[5:], [[51], [0, 0, 51, 60]])

    def test_refusals(self):
        self.assertEqual(
            ask(start(7, 3), mould(0), put(0), blade(1, 4), put(0), put(1), put(HIGHEST), drop(0))[2:],
            [[-2], [0], [-33], [-2], [-2], [4]])

    def test_12_jobs_at_most(self):
        told = ask(*TWELVE_JOBS, put(0), drop(0))
        self.assertEqual([told[4 + 2 * job] for job in range(12)],
                         [[job, 0, 15 * job, 15 * job + 10] for job in range(12)])
        self.assertEqual(told[-2:], [[-28], [10]])

    def test_with_12_jobs_the_others_go_ahead(self):
        self.assertEqual(ask(*TWELVE_JOBS, blade(2, 1), put(2), put(1), put(0))[-3:], [[-2], [-33], [-28]])

    def test_a_jobs_number_that_is_free_again(self):
        self.assertEqual(
            ask(start(1, 0), mould(0), mould(1), blade(0, 9), blade(1, 20), put(0), put(1), pass_by(10), blade(0, 3),
                put(0), blade(0, 3), put(0))[7:],
            [[10], [0], [0, 0, 10, 13], [0], [2, 0, 14, 17]])

    def test_there_is_room_again_behind_12_jobs(self):
        self.assertEqual(ask(*TWELVE_JOBS, pass_by(14), put(0), pass_by(1), put(0))[-4:],
                         [[14], [-28], [15], [0, 0, 180, 190]])


class At(unittest.TestCase):
    def test_it_is_a_job_from_then_on(self):
        self.assertEqual(
            ask(start(7, 3), mould(1), mould(0), blade(0, 40), at(0, 1, 25), drop(0), order([]), blade(0, 1), best(0)),
            [[0], [0], [1], [0], [0, 65], [-2], [72], [0], [83, 1, 75, 76]])

    def test_no_such_blade_or_mould(self):
        self.assertEqual(
            ask(start(7, 3), mould(0), at(0, 0, 0), blade(0, 40), at(1, 0, 0), at(0, 1, 0), at(0, 4, 0),
                at(HIGHEST, 0, 0), at(0, HIGHEST, 0), drop(0))[2:],
            [[-2], [0], [-2], [-2], [-2], [-2], [-2], [40]])

    def test_a_mould_of_another_kind(self):
        self.assertEqual(ask_last(start(7, 3), mould(0), mould(1), blade(0, 40), at(0, 1, 0)), [-22])

    def test_the_edges_of_t(self):
        for t, told in [(0, [-22]), (49, [-22]), (50, [0, 90]), (51, [0, 91]), (350, [0, 390]), (351, [-22]),
                        (HIGHEST, [-22])]:
            self.assertEqual(ask_last(start(7, 3), mould(0), blade(0, 40), pass_by(50), at(0, 0, t)), told, t)

    def test_the_first_named_is_answered(self):
        calls = [start(7, 3), mould(0), mould(1), blade(0, 40), at(0, 0, 10), blade(0, 40), pass_by(10)]
        self.assertEqual(ask_last(*calls, at(1, 1, 9)), [-2])
        self.assertEqual(ask_last(*calls, at(0, 2, 9)), [-2])
        self.assertEqual(ask_last(*calls, at(0, 0, 9)), [-22])
        self.assertEqual(ask_last(*calls, at(0, 1, 10)), [-22])
        self.assertEqual(ask_last(*calls, at(0, 0, 10)), [-17])

    def test_with_12_jobs(self):
        self.assertEqual(ask_last(*TWELVE_JOBS, at(1, 0, 180)), [-2])
        self.assertEqual(ask_last(*TWELVE_JOBS, at(0, 1, 180)), [-22])
        self.assertEqual(ask_last(*TWELVE_JOBS, at(0, 0, 301)), [-22])
        self.assertEqual(ask_last(*TWELVE_JOBS, at(0, 0, 179)), [-17])
        self.assertEqual(ask(*TWELVE_JOBS, at(0, 0, 180), drop(0))[-2:], [[-28], [10]])

    def test_the_mould_is_used(self):
        # The mould is used from 100 up to 124; a blade of 10 minutes uses it for 24 of them.
        calls = [start(10, 4), mould(0), blade(0, 10), at(0, 0, 100), blade(0, 10)]
        for t, told in [(0, [1, 10]), (76, [1, 86]), (77, [-17]), (99, [-17]), (100, [-17]), (123, [-17]),
                        (124, [1, 134]), (200, [1, 210])]:
            self.assertEqual(ask_last(*calls, at(0, 0, t)), told, t)

    def test_used_within_and_around(self):
        calls = [start(1, 0), mould(0), blade(0, 10), at(0, 0, 100)]
        self.assertEqual(ask_last(*calls, blade(0, 2), at(0, 0, 104)), [-17])
        self.assertEqual(ask_last(*calls, blade(0, 50), at(0, 0, 80)), [-17])

    def test_no_cleaning(self):
        calls = [start(10, 0), mould(0), blade(0, 10), at(0, 0, 100), blade(0, 10)]
        for t, told in [(80, [1, 90]), (81, [-17]), (119, [-17]), (120, [1, 130])]:
            self.assertEqual(ask_last(*calls, at(0, 0, t)), told, t)

    def test_another_mould_does_not_matter(self):
        calls = [start(10, 4), mould(0), mould(0), blade(0, 10), at(0, 0, 100), blade(0, 10)]
        self.assertEqual(ask_last(*calls, at(0, 1, 100)), [1, 120])

    def test_waiting_for_the_crane_may_make_the_mould_used(self):
        # The other mould's lift is from 50 to 60. Ready at 45, it's lifted at 60 and clean at 72.
        calls = [start(10, 2), mould(0), mould(1), blade(1, 50), put(0), blade(0, 10), blade(0, 30)]
        self.assertEqual(ask(*calls, at(0, 0, 72), at(1, 0, 15))[7:], [[1, 82], [2, 60]])
        self.assertEqual(ask(*calls, at(0, 0, 71), at(1, 0, 15))[7:], [[1, 81], [-17]])
        self.assertEqual(ask(*calls, at(0, 0, 71), at(1, 0, 10))[7:], [[1, 81], [2, 40]])

    def test_what_is_refused_still_waits(self):
        calls = [start(10, 4), mould(0), blade(0, 10), at(0, 0, 0), blade(0, 12)]
        self.assertEqual(ask(*calls, at(0, 0, 5), order([0]), drop(0))[5:], [[-17], [46], [12]])


class Cancel(unittest.TestCase):
    def test_it_waits_again_as_it_was(self):
        self.assertEqual(
            ask(start(7, 3), mould(2), blade(2, 40), put(0), cancel(0), cancel(0), order([]), best(0), drop(0))[3:],
            [[0, 0, 0, 40], [0], [-2], [0], [47, 0, 0, 40], [40]])

    def test_no_such_job(self):
        self.assertEqual(
            ask(start(7, 3), mould(0), blade(0, 40), cancel(0), put(0), cancel(1), cancel(12), cancel(HIGHEST))[3:],
            [[-2], [0, 0, 0, 40], [-2], [-2], [-2]])

    def test_begun_before_this_minute(self):
        calls = [start(7, 3), mould(0), blade(0, 40), at(0, 0, 10)]
        self.assertEqual(ask(*calls, pass_by(9), cancel(0))[-1], [0])
        self.assertEqual(ask(*calls, pass_by(10), cancel(0))[-1], [0])
        self.assertEqual(ask(*calls, pass_by(11), cancel(0), order([]))[-2:], [[-16], [57]])

    def test_5_wait(self):
        calls = [start(7, 3), mould(0), blade(0, 40), put(0)] + [blade(0, 9)] * 5
        self.assertEqual(ask(*calls, cancel(0), order([]), drop(3), cancel(0), drop(3))[-5:],
                         [[-28], [47], [9], [3], [40]])

    def test_the_first_named_is_answered(self):
        calls = [start(7, 3), mould(0), blade(0, 40), put(0)] + [blade(0, 9)] * 5
        self.assertEqual(ask_last(*calls, cancel(1)), [-2])
        self.assertEqual(ask_last(*calls, pass_by(1), cancel(0)), [-16])

    def test_a_done_job_is_none(self):
        calls = [start(7, 3), mould(0), blade(0, 40), put(0)]
        self.assertEqual(ask(*calls, pass_by(49), cancel(0))[-1], [-16])
        self.assertEqual(ask(*calls, pass_by(50), cancel(0))[-1], [-2])

    def test_the_least_free_number_of_those_that_wait(self):
        self.assertEqual(
            ask(start(7, 3), mould(0), blade(0, 40), blade(0, 30), blade(0, 20), put(0), put(1), cancel(1), cancel(0),
                drop(0), drop(1), drop(2))[7:],
            [[0], [1], [30], [40], [20]])

    def test_mould_and_crane_are_free_again_and_other_jobs_stay(self):
        calls = [start(10, 0), mould(0), mould(1), blade(0, 30), blade(1, 30), put(0), put(1), cancel(0)]
        told = ask(*calls, order([]), best(0), cancel(1), best(0), best(1))[7:]
        self.assertEqual(told, [[0], [50], [40, 0, 0, 30], [1], [40, 0, 0, 30], [40, 1, 0, 30]])

    def test_a_jobs_number_is_free_again(self):
        self.assertEqual(
            ask(start(1, 0), mould(0), *[blade(0, 9)] * 3, put(0), put(1), put(2), cancel(1), put(0))[8:],
            [[0], [1, 0, 30, 39]])

    def test_there_is_room_again_behind_12_jobs(self):
        self.assertEqual(ask(*TWELVE_JOBS, put(0), cancel(4), put(0), put(1))[-4:],
                         [[-28], [1], [4, 0, 180, 190], [-28]])


if __name__ == "__main__":
    unittest.main()
