import unittest

from tests.helper import (
    ask, ask_last, at, best, blade, cancel, crane, follow, free_at, inside, job, mould, order, over, pass_by, plan, put,
    start, state, waiting)


def with_jobs(many):
    """So many jobs, one behind another in the one mould of kind 0 (each 10 in it, 5 lifted)."""
    return [start(5, 0), mould(0), mould(1)] + [blade(0, 10), put(0)] * many


class Follow(unittest.TestCase):
    THREE = [start(1, 0), mould(0), mould(0), blade(0, 5), blade(0, 5), blade(0, 10)]

    def test_all_are_put_by_the_best_order(self):
        # By order 0, 2, 1 the last is out at 12, by order 0, 1, 2 only at 17.
        self.assertEqual(
            ask(*self.THREE, plan(), follow(), job(0), job(1), job(2), job(3))[6:],
            [[12, 0, 2, 1], [12], [0, 0, 0, 5, 5], [1, 0, 0, 10, 10], [0, 0, 6, 11, 11], [-2]])

    def test_they_wait_no_more(self):
        self.assertEqual(
            ask(*self.THREE, waiting(), follow(), waiting(), state(), best(0), plan(), blade(0, 4))[6:],
            [[3, 0, 1, 2], [12], [0], [0, 2, 0, 3, 0], [-2], [12], [0]])

    def test_of_like_orders_the_first_is_followed(self):
        # By either order the last is out at 38.
        calls = [start(10, 5), mould(0), blade(0, 9), blade(0, 4)]
        self.assertEqual(ask(*calls, order([0, 1]), order([1, 0]), follow(), job(0), job(1))[4:],
                         [[38], [38], [38], [0, 0, 0, 9, 9], [0, 0, 24, 28, 28]])
        calls = [start(10, 5), mould(0), *[blade(0, 9)] * 5]
        self.assertEqual(ask(*calls, follow(), *[job(j) for j in range(5)])[7:],
                         [[115]] + [[0, 0, 24 * j, 24 * j + 9, 24 * j + 9] for j in range(5)])

    def test_each_job_has_the_least_number_that_is_free(self):
        # Jobs 0, 1, 2 lie behind one another in mould 0; job 1 is cancelled, so 1 is free, then 3.
        calls = [start(1, 0), mould(0), mould(1), blade(0, 9), put(0), blade(0, 9), put(0), blade(0, 9), put(0),
                 cancel(1), blade(1, 4)]
        self.assertEqual(
            ask(*calls, plan(), follow(), job(1), job(3), job(4))[9:],
            [[0], [1], [40, 0, 1], [40], [0, 0, 30, 39, 39], [1, 1, 0, 4, 4], [-2]])

    def test_none_that_wait(self):
        self.assertEqual(ask_last(start(1, 0), follow()), [0])
        self.assertEqual(ask_last(start(1, 0), mould(0), pass_by(8), follow()), [8])
        calls = [start(7, 3), mould(0), blade(0, 40), put(0)]
        for minutes, told in [(1, 47), (47, 47), (48, 48), (49, 49), (50, 50)]:
            self.assertEqual(ask_last(*calls, pass_by(minutes), follow()), [told], minutes)
        self.assertEqual(ask(*calls, follow(), state())[4:], [[47], [0, 1, 0, 1, 0]])

    def test_a_job_that_is_out_later_than_all_that_wait(self):
        calls = [start(1, 0), mould(0), mould(1), blade(1, 9), at(0, 1, 300), blade(0, 5)]
        self.assertEqual(ask(*calls, plan(), follow(), over(), job(1))[6:],
                         [[310, 0], [310], [310], [0, 0, 0, 5, 5]])

    def test_later_than_minute_0(self):
        self.assertEqual(ask(*self.THREE, pass_by(70), follow(), over(), free_at(0), free_at(1))[6:],
                         [[70], [82], [82], [82], [81]])

    def test_no_mould_for_one_that_waits(self):
        calls = [start(5, 0), mould(0), blade(0, 10), blade(1, 10)]
        self.assertEqual(ask(*calls, follow(), waiting(), state(), job(0), crane(10), inside(0, 0))[4:],
                         [[-33], [2, 0, 1], [0, 1, 2, 0, 0], [-2], [-33], [-33]])
        self.assertEqual(ask(*calls, mould(1), follow())[4:], [[1], [20]])

    def test_just_12_jobs(self):
        for there, wait in [(7, 5), (8, 4), (11, 1), (12, 0)]:
            calls = with_jobs(there) + [blade(0, 10)] * wait
            self.assertEqual(ask(*calls, follow(), waiting(), state(), job(11), job(12))[-5:],
                             [[180], [0], [0, 2, 0, 12, 0], [0, 0, 165, 175, 175], [-2]], (there, wait))

    def test_one_more_than_12_jobs(self):
        for there, wait in [(8, 5), (9, 4), (11, 2), (12, 1)]:
            calls = with_jobs(there) + [blade(0, 10)] * wait
            self.assertEqual(
                ask(*calls, follow(), waiting(), state(), over(), job(there))[-5:],
                [[-28], [wait] + list(range(wait)), [0, 2, wait, there, 0], [15 * there], [-2]], (there, wait))

    def test_order_and_plan_are_told_though_it_is_refused(self):
        calls = with_jobs(12) + [blade(0, 10)]
        self.assertEqual(ask(*calls, plan(), order([0]), follow())[-3:], [[195, 0], [195], [-28]])

    def test_no_mould_goes_ahead_of_too_many_jobs(self):
        self.assertEqual(ask_last(*with_jobs(12), blade(2, 10), follow()), [-33])
        self.assertEqual(ask_last(*with_jobs(12), blade(0, 10), blade(3, 10), follow()), [-33])

    def test_there_is_room_again_when_a_job_is_done(self):
        calls = with_jobs(12) + [blade(0, 10)]
        self.assertEqual(ask(*calls, pass_by(14), follow(), pass_by(1), follow(), job(0), state())[-6:],
                         [[14], [-28], [15], [195], [0, 0, 180, 190, 190], [15, 2, 0, 12, 1]])

    def test_what_it_put_can_be_cancelled(self):
        # The one that stays is in mould 0 up to 12, so the two others lie behind one another in mould 1.
        self.assertEqual(
            ask(*self.THREE, follow(), cancel(1), cancel(0), waiting(), follow(), job(0), job(1))[6:],
            [[12], [0], [1], [2, 0, 1], [17], [1, 0, 0, 10, 10], [1, 0, 11, 16, 16]])


if __name__ == "__main__":
    unittest.main()
