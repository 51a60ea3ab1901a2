import itertools
import unittest

from tests.helper import HIGHEST, ask, ask_last, at, blade, cancel, drop, mould, order, pass_by, plan, put, start


class PassBy(unittest.TestCase):
    def test_which_minute_it_is(self):
        self.assertEqual(ask(start(1, 0), pass_by(1), pass_by(30), pass_by(1000)), [[0], [1], [31], [1031]])

    def test_the_edges_of_n(self):
        for n, told in [(0, -22), (1, 1), (1000, 1000), (1001, -22), (HIGHEST, -22)]:
            self.assertEqual(ask_last(start(1, 0), pass_by(n)), [told], n)

    def test_refused_no_time_goes_by(self):
        self.assertEqual(ask(start(1, 0), pass_by(5), pass_by(0), pass_by(1001), pass_by(1))[1:],
                         [[5], [-22], [-22], [6]])

    def test_minute_100000_and_beyond(self):
        calls = [start(1, 0), mould(0), blade(0, 200)] + [pass_by(1000)] * 99
        self.assertEqual(ask_last(*calls), [99000])
        self.assertEqual(ask(*calls, pass_by(1000), pass_by(1), pass_by(1000), pass_by(0))[-4:],
                         [[100000], [-22], [-22], [-22]])
        self.assertEqual(ask(*calls, pass_by(999), pass_by(2), pass_by(1), pass_by(1))[-4:],
                         [[99999], [-22], [100000], [-22]])

    def test_jobs_go_on_beyond_minute_100000(self):
        calls = [start(1, 0), mould(0), blade(0, 200), blade(0, 3)] + [pass_by(1000)] * 100
        self.assertEqual(ask(*calls, order([0]), plan(), put(0), at(1, 0, 100300), pass_by(1))[-5:],
                         [[100201], [100205, 0, 1], [0, 0, 100000, 100200], [1, 100303], [-22]])

    def test_a_job_is_done_when_its_mould_is_clean(self):
        calls = [start(7, 3), mould(0), blade(0, 40), put(0)]
        self.assertEqual(ask(*calls, pass_by(49), cancel(0))[-2:], [[49], [-16]])
        self.assertEqual(ask(*calls, pass_by(50), cancel(0))[-2:], [[50], [-2]])
        self.assertEqual(ask(*calls, pass_by(1000), cancel(0))[-2:], [[1000], [-2]])

    def test_with_no_cleaning_it_is_done_when_it_is_out(self):
        calls = [start(7, 0), mould(0), blade(0, 40), put(0)]
        self.assertEqual(ask_last(*calls, pass_by(46), cancel(0)), [-16])
        self.assertEqual(ask_last(*calls, pass_by(47), cancel(0)), [-2])

    def test_a_job_begun_later_than_now_stays(self):
        calls = [start(7, 3), mould(0), blade(0, 40), at(0, 0, 300), pass_by(250)]
        self.assertEqual(ask(*calls, order([]), cancel(0))[-2:], [[347], [0]])


class Order(unittest.TestCase):
    SET_UP = [start(10, 5), mould(0), mould(1), blade(0, 30), blade(0, 10), blade(1, 28), blade(2, 1)]

    def test_when_the_last_is_out(self):
        # 0 first: lifted at 30; 1 is in at 45, lifted at 55; 2 is ready at 28, lifted at 40.
        # 1 first: lifted at 10; 0 is in at 25, lifted at 55; 2 is lifted at 28.
        for row, told in [([0], 40), ([1], 20), ([2], 38), ([0, 1], 65), ([1, 0], 65), ([0, 2], 50), ([2, 0], 48),
                          ([0, 1, 2], 65), ([2, 1, 0], 65), ([2, 0, 1], 73)]:
            self.assertEqual(ask_last(*self.SET_UP, order(row)), [told], row)

    def test_it_changes_nothing(self):
        self.assertEqual(
            ask(*self.SET_UP, order([2, 0, 1]), order([2, 0, 1]), order([]), cancel(0), drop(0), drop(1), drop(2))[7:],
            [[73], [73], [0], [-2], [30], [10], [28]])

    def test_refusals(self):
        for row in [[3], [4], [HIGHEST], [0, 0], [0, 1, 0], [0, 3], [3, 0], [0, 1, 2, 3], [0, 1, 2, 4], [2, HIGHEST],
                    [0] * 60, list(range(60)), [0, 1, 2] * 20]:
            self.assertEqual(ask_last(*self.SET_UP, order(row)), [-33], row)

    def test_a_job_does_not_wait(self):
        self.assertEqual(ask(*self.SET_UP, put(0), order([0]), order([1]))[-2:], [[-33], [65]])

    def test_an_empty_row(self):
        self.assertEqual(ask_last(start(10, 5), order([])), [0])
        self.assertEqual(ask_last(*self.SET_UP, order([])), [0])
        self.assertEqual(ask_last(*self.SET_UP, pass_by(17), order([])), [17])
        self.assertEqual(ask_last(*self.SET_UP, put(0), order([])), [40])

    def test_now_if_all_are_out_earlier(self):
        for minutes, told in [(39, 40), (40, 40), (41, 41), (44, 44), (45, 45)]:
            self.assertEqual(ask_last(*self.SET_UP, put(0), pass_by(minutes), order([])), [told], minutes)

    def test_a_job_that_is_there_may_be_the_last(self):
        self.assertEqual(ask_last(*self.SET_UP, at(0, 0, 200), order([2])), [240])

    def test_each_sees_those_put_ahead_of_it(self):
        # Two moulds of one kind: the third comes into the one that is free first.
        calls = [start(10, 0), mould(0), mould(0), blade(0, 50), blade(0, 20), blade(0, 25)]
        self.assertEqual(ask_last(*calls, order([0, 1, 2])), [70])
        self.assertEqual(ask(*calls, order([0, 1, 2]), put(0), put(1), put(2), order([]))[6:],
                         [[70], [0, 0, 0, 50], [1, 1, 0, 20], [2, 1, 30, 60], [70]])

    def test_more_than_12_jobs_are_thought_of(self):
        calls = [start(5, 0), mould(0)] + [blade(0, 10), put(0)] * 12 + [blade(0, 10), blade(0, 20)]
        self.assertEqual(ask(*calls, order([0, 1]), plan(), put(0))[-3:], [[220], [220, 0, 1], [-28]])


class Plan(unittest.TestCase):
    def test_none_waits(self):
        self.assertEqual(ask_last(start(10, 5), plan()), [0])
        self.assertEqual(ask_last(start(10, 5), mould(0), pass_by(3), plan()), [3])
        self.assertEqual(ask_last(start(10, 5), mould(0), blade(0, 9), put(0), plan()), [19])
        self.assertEqual(ask_last(start(10, 5), mould(0), blade(0, 9), put(0), pass_by(20), plan()), [20])

    def test_no_mould_for_one_that_waits(self):
        calls = [start(10, 5), mould(0), blade(0, 9)]
        self.assertEqual(ask(*calls, blade(1, 9), plan(), drop(1), plan())[-3:], [[-33], [9], [19, 0]])
        self.assertEqual(ask_last(start(10, 5), blade(0, 9), plan()), [-33])

    def test_the_longest_first_is_better(self):
        calls = [start(1, 0), mould(0), mould(0), blade(0, 5), blade(0, 5), blade(0, 10)]
        self.assertEqual(ask_last(*calls, order([0, 1, 2])), [17])
        self.assertEqual(ask_last(*calls, plan()), [12, 0, 2, 1])

    def test_of_like_orders_the_first(self):
        self.assertEqual(ask_last(start(10, 5), mould(0), *[blade(0, 9)] * 5, plan()), [115, 0, 1, 2, 3, 4])

    def test_numbers_that_wait_with_a_gap(self):
        calls = [start(10, 5), mould(0), *[blade(0, 9)] * 5, drop(0), drop(3)]
        self.assertEqual(ask_last(*calls, plan()), [67, 1, 2, 4])

    def test_a_later_job_makes_all_orders_alike(self):
        calls = [start(1, 0), mould(0), mould(0), mould(1), blade(1, 9), at(0, 2, 300), blade(0, 5), blade(0, 5),
                 blade(0, 10)]
        self.assertEqual(ask_last(*calls, plan()), [310, 0, 1, 2])

    def test_it_changes_nothing(self):
        calls = [start(1, 0), mould(0), mould(0), blade(0, 5), blade(0, 5), blade(0, 10)]
        self.assertEqual(ask(*calls, plan(), plan(), order([]), cancel(0), put(2), plan())[6:],
                         [[12, 0, 2, 1], [12, 0, 2, 1], [0], [-2], [0, 0, 0, 10], [12, 0, 1]])

    def test_following_it_by_hand(self):
        calls = [start(7, 3), mould(0), mould(1), mould(0), blade(0, 35), blade(1, 31), blade(0, 12), blade(1, 8),
                 blade(0, 50)]
        told = ask_last(*calls, plan())
        puts = [put(number) for number in told[1:]]
        self.assertEqual(ask_last(*calls, *puts, order([])), told[:1])


class PlanAgainstAllOrders(unittest.TestCase):
    def hold(self, calls, waiting):
        orders = list(itertools.permutations(waiting))
        ends = [told[0] for told in ask(*calls, *[order(row) for row in orders])[len(calls):]]
        soonest = min(ends)
        first = orders[ends.index(soonest)]
        self.assertEqual(ask_last(*calls, plan()), [soonest] + list(first), calls)
        return len(set(ends)) > 1

    def test_few_moulds_and_5_blades(self):
        differing = 0
        for number in range(60):
            lift = 1 + number * 7 % 60
            calls = [start(lift, number * 11 % 61), mould(0), mould(number % 2), mould(0), mould(1)]
            for place in range(5):
                calls.append(blade((number + place) % 2, 1 + (number * 37 + place * place * 53) % 200))
            differing += self.hold(calls, range(5))
        self.assertGreater(differing, 20)

    def test_beside_jobs_that_are_there(self):
        differing = 0
        for number in range(60):
            calls = [start(1 + number * 13 % 25, number % 9), mould(0), mould(1), mould(0)]
            calls += [blade(0, 1 + number % 50), put(0), blade(1, 1 + number * 3 % 80), at(0, 1, number % 30)]
            calls += [pass_by(1 + number % 20), blade(0, 5), blade(1, 1)]
            for place in range(3):
                calls.append(blade((number + place) % 2, 1 + (number * 41 + place * 67) % 120))
            calls.append(drop(0))
            differing += self.hold(calls, range(1, 5))
        self.assertGreater(differing, 20)


if __name__ == "__main__":
    unittest.main()
