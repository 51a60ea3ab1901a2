import unittest

from tests.helper import (
    HIGHEST, ask, ask_behind, ask_last, at, blade, cancel, crane, drop, follow, free_at, idle, inside, job, lifts, mould,
    over, pass_by, put, start, state, waiting)

# Job 0 in mould 0: in it 100, ready and lifted 130, out 140, free 145.
# Job 1 in mould 1: in it 100, ready 125, lifted 140 (the lifts touch), out 150, free 155.
TWO_JOBS = [start(10, 5), mould(0), mould(1), blade(0, 30), at(0, 0, 100), blade(1, 25), at(0, 1, 100)]
# The same two, with no cleaning: free at 140 and at 150.
NOT_CLEANED = [start(10, 0)] + TWO_JOBS[1:]


class Over(unittest.TestCase):
    def test_no_job(self):
        self.assertEqual(ask(start(10, 5), over(), mould(0), blade(0, 9), over(), pass_by(12), over()),
                         [[0], [0], [0], [0], [0], [12], [12]])

    def test_the_last_of_all_jobs(self):
        calls = [start(10, 5), mould(0), mould(1), blade(0, 50), put(0), blade(1, 20), put(0)]
        self.assertEqual(ask(*calls, over(), cancel(0), over())[7:], [[60], [0], [30]])

    def test_now_if_that_was_earlier(self):
        # The blade is out at 20, its mould is cleaned till 25.
        calls = [start(10, 5), mould(0), blade(0, 10), put(0)]
        for minutes, told in [(19, 20), (20, 20), (21, 21), (24, 24), (25, 25), (26, 26)]:
            self.assertEqual(ask(*calls, pass_by(minutes), over(), state())[5:],
                             [[told], [minutes, 1, 0, int(minutes < 25), int(minutes >= 25)]], minutes)

    def test_a_job_begun_later_than_now(self):
        self.assertEqual(ask_last(*TWO_JOBS, pass_by(50), over()), [150])


class Crane(unittest.TestCase):
    TOLD = [(0, [-33]), (129, [-33]), (130, [0]), (139, [0]), (140, [1]), (149, [1]), (150, [-33]), (155, [-33]),
            (100000, [-33]), (100001, [-33]), (HIGHEST, [-33])]

    def test_each_lifts_edges(self):
        for calls in [TWO_JOBS, NOT_CLEANED]:
            for t, told in self.TOLD:
                self.assertEqual(ask_last(*calls, crane(t)), told, t)

    def test_minutes_gone_by_are_told_while_the_job_is_there(self):
        calls = [*TWO_JOBS, pass_by(144)]
        for t, told in self.TOLD:
            self.assertEqual(ask_last(*calls, crane(t)), told, t)

    def test_a_done_job_is_told_no_more(self):
        self.assertEqual(ask(*TWO_JOBS, pass_by(145), crane(130), crane(139), crane(140))[8:], [[-33], [-33], [1]])

    def test_a_cancelled_job_is_told_no_more(self):
        self.assertEqual(ask(*TWO_JOBS, cancel(0), crane(130), crane(139), crane(140))[8:], [[-33], [-33], [1]])

    def test_no_job(self):
        self.assertEqual(ask(start(1, 0), crane(0), mould(0), blade(0, 1), crane(1)),
                         [[0], [-33], [0], [0], [-33]])

    def test_the_shortest_and_the_longest_lift(self):
        calls = [start(1, 0), mould(0), blade(0, 1), put(0)]
        self.assertEqual(ask(*calls, crane(0), crane(1), crane(2))[4:], [[-33], [0], [-33]])
        calls = [start(60, 60), mould(0), blade(0, 200), put(0)]
        self.assertEqual(ask(*calls, crane(199), crane(200), crane(259), crane(260))[4:], [[-33], [0], [0], [-33]])

    def test_a_lift_between_two_others(self):
        calls = [start(10, 0), mould(0), mould(1), mould(2), blade(0, 30), put(0), blade(1, 50), put(0), blade(2, 35),
                 put(0)]
        for t, told in [(29, -33), (30, 0), (39, 0), (40, 2), (49, 2), (50, 1), (59, 1), (60, -33)]:
            self.assertEqual(ask_last(*calls, crane(t)), [told], t)

    def test_two_ready_at_one_minute(self):
        calls = [start(10, 0), mould(0), mould(1), blade(0, 30), blade(1, 30), put(1), put(0)]
        self.assertEqual(ask(*calls, crane(30), crane(39), crane(40), crane(49), job(0), job(1))[7:],
                         [[0], [0], [1], [1], [1, 1, 0, 30, 30], [0, 0, 0, 30, 40]])


class Inside(unittest.TestCase):
    def hold(self, calls, m, edges):
        told = ask_behind(calls, [inside(m, t) for t, answer in edges])
        self.assertEqual([(t, answer) for (t, wanted), answer in zip(edges, told)], edges)

    def test_the_parts_edges(self):
        self.hold(TWO_JOBS, 0, [(0, [-33]), (99, [-33]), (100, [0, 0]), (129, [0, 0]), (130, [0, 2]), (139, [0, 2]),
                                (140, [0, 3]), (144, [0, 3]), (145, [-33]), (HIGHEST, [-33])])

    def test_the_parts_edges_with_a_job_waiting_for_the_crane(self):
        self.hold(TWO_JOBS, 1, [(0, [-33]), (99, [-33]), (100, [1, 0]), (124, [1, 0]), (125, [1, 1]), (139, [1, 1]),
                                (140, [1, 2]), (149, [1, 2]), (150, [1, 3]), (154, [1, 3]), (155, [-33]),
                                (HIGHEST, [-33])])

    def test_the_parts_edges_with_no_cleaning(self):
        self.hold(NOT_CLEANED, 0, [(99, [-33]), (100, [0, 0]), (129, [0, 0]), (130, [0, 2]), (139, [0, 2]),
                                   (140, [-33]), (HIGHEST, [-33])])
        self.hold(NOT_CLEANED, 1, [(99, [-33]), (100, [1, 0]), (124, [1, 0]), (125, [1, 1]), (139, [1, 1]),
                                   (140, [1, 2]), (149, [1, 2]), (150, [-33]), (HIGHEST, [-33])])

    def test_waiting_for_the_crane_for_one_minute(self):
        calls = [start(10, 5), mould(0), mould(1), blade(0, 30), put(0), blade(1, 39), put(0)]
        self.hold(calls, 1, [(38, [1, 0]), (39, [1, 1]), (40, [1, 2])])

    def test_cleaned_for_one_minute(self):
        self.hold([start(1, 1), mould(0), blade(0, 1), put(0)], 0, [(0, [0, 0]), (1, [0, 2]), (2, [0, 3]), (3, [-33])])

    def test_one_behind_another_in_one_mould(self):
        calls = [start(10, 5), mould(0), blade(0, 3), put(0), blade(0, 4), put(0)]
        self.hold(calls, 0, [(0, [0, 0]), (17, [0, 3]), (18, [1, 0]), (36, [1, 3]), (37, [-33])])
        self.hold([start(10, 0)] + calls[1:], 0, [(12, [0, 2]), (13, [1, 0]), (26, [1, 2]), (27, [-33])])

    def test_no_such_mould(self):
        self.assertEqual(ask(*TWO_JOBS, inside(2, 100), inside(4, 0), inside(HIGHEST, HIGHEST))[7:],
                         [[-2], [-2], [-2]])
        self.assertEqual(ask(start(1, 0), inside(0, 0), mould(0), inside(0, 0), inside(1, 0)),
                         [[0], [-2], [0], [-33], [-2]])

    def test_minutes_gone_by_are_told_while_the_job_is_there(self):
        calls = [*TWO_JOBS, pass_by(144)]
        self.hold(calls, 0, [(99, [-33]), (100, [0, 0]), (130, [0, 2]), (144, [0, 3]), (145, [-33])])
        self.assertEqual(ask(*TWO_JOBS, pass_by(145), inside(0, 144), inside(0, 100), inside(1, 100))[8:],
                         [[-33], [-33], [1, 0]])

    def test_a_cancelled_job_is_told_no_more(self):
        self.assertEqual(ask(*TWO_JOBS, cancel(0), inside(0, 100), inside(0, 135), inside(1, 130))[8:],
                         [[-33], [-33], [1, 1]])


class FreeAt(unittest.TestCase):
    def test_a_mould_never_used(self):
        self.assertEqual(ask(start(10, 5), mould(0), free_at(0), pass_by(9), free_at(0))[2:], [[0], [9], [9]])

    def test_a_mould_that_is_used_now(self):
        calls = [start(10, 5), mould(0), mould(0), blade(0, 30), put(0)]
        for minutes, told in [(1, 45), (30, 45), (44, 45), (45, 45), (46, 46)]:
            self.assertEqual(ask(*calls, pass_by(minutes), free_at(0), free_at(1))[6:], [[told], [minutes]], minutes)

    def test_a_mould_whose_job_begins_later_than_now(self):
        self.assertEqual(ask(*TWO_JOBS, free_at(0), free_at(1), pass_by(50), free_at(0), free_at(1))[7:],
                         [[145], [155], [50], [145], [155]])
        self.assertEqual(ask(*NOT_CLEANED, free_at(0), free_at(1))[7:], [[140], [150]])

    def test_the_last_of_its_jobs_counts(self):
        calls = [start(1, 2), mould(0), blade(0, 5), at(0, 0, 100), blade(0, 5), at(0, 0, 0)]
        self.assertEqual(ask(*calls, free_at(0), cancel(0), free_at(0))[6:], [[108], [0], [8]])

    def test_no_such_mould(self):
        self.assertEqual(ask(start(1, 0), free_at(0), mould(0), free_at(0), free_at(1), free_at(HIGHEST)),
                         [[0], [-2], [0], [0], [-2], [-2]])
        self.assertEqual(ask(start(1, 0), *[mould(0)] * 4, free_at(3), free_at(4))[5:], [[0], [-2]])


class Lifts(unittest.TestCase):
    def test_the_edges_of_t(self):
        calls = [start(10, 5), pass_by(50)]
        for t, told in [(0, -22), (49, -22), (50, 50), (51, 51), (99999, 99999), (100000, 100000), (100001, -22),
                        (HIGHEST, -22)]:
            self.assertEqual(ask_last(*calls, lifts(t)), [told], t)

    def test_two_lifts_that_touch(self):
        # Lifts from 130 and from 140.
        for t, told in [(0, 0), (119, 119), (120, 120), (121, 150), (130, 150), (140, 150), (149, 150), (150, 150),
                        (151, 151)]:
            self.assertEqual(ask_last(*TWO_JOBS, lifts(t)), [told], t)

    def test_a_gap_between_two_lifts(self):
        for between, gaps in [(10, [(21, 40), (40, 40), (41, 60)]), (9, [(21, 59), (40, 59)]),
                              (11, [(21, 40), (40, 40), (41, 41), (42, 61)])]:
            calls = [start(10, 5), mould(0), mould(1), blade(0, 30), put(0), blade(1, 40 + between), put(0)]
            for t, told in gaps:
                self.assertEqual(ask_last(*calls, lifts(t)), [told], (between, t))

    def test_no_job(self):
        self.assertEqual(ask(start(60, 0), lifts(0), lifts(1), mould(0), blade(0, 1), lifts(0))[1:],
                         [[0], [1], [0], [0], [0]])

    def test_a_cancelled_job_leaves_the_crane(self):
        self.assertEqual(ask(*TWO_JOBS, cancel(0), lifts(121), lifts(130), lifts(131))[8:], [[121], [130], [150]])

    def test_within_a_lift_that_is_going_on(self):
        self.assertEqual(ask(*TWO_JOBS, pass_by(135), lifts(134), lifts(135))[8:], [[-22], [150]])

    def test_at_minute_100000(self):
        # The lift is from 99,995 to 100,005.
        calls = [start(10, 5), mould(0)] + [pass_by(1000)] * 99 + [pass_by(900), blade(0, 95), put(0)]
        self.assertEqual(ask(*calls, lifts(99985), lifts(99986), lifts(100000), lifts(100001))[-4:],
                         [[99985], [100005], [100005], [-22]])
        self.assertEqual(ask(*calls, pass_by(100), lifts(99999), lifts(100000), lifts(100001))[-3:],
                         [[-22], [100005], [-22]])


class Idle(unittest.TestCase):
    def test_no_job(self):
        self.assertEqual(ask(start(10, 5), mould(0), blade(0, 9), idle(0), pass_by(7), idle(0))[3:], [[0], [7], [0]])

    def test_a_mould_never_used(self):
        calls = [start(10, 5), mould(0), mould(1), blade(0, 30), put(0)]
        for minutes, told in [(1, 39), (39, 1), (40, 0), (41, 0), (45, 0)]:
            self.assertEqual(ask_last(*calls, pass_by(minutes), idle(1)), [told], minutes)
        self.assertEqual(ask_last(*calls, idle(1)), [40])

    def test_a_mould_that_is_used_now(self):
        # Mould 0 is used up to 45, the last is out at 110.
        calls = [start(10, 5), mould(0), mould(1), blade(0, 30), put(0), blade(1, 100), put(0)]
        self.assertEqual(ask(*calls, idle(0), idle(1), pass_by(20), idle(0), idle(1))[7:],
                         [[65], [0], [20], [65], [0]])
        self.assertEqual(ask(*calls, pass_by(44), idle(0), pass_by(1), idle(0), pass_by(1), idle(0))[7:],
                         [[44], [65], [45], [65], [46], [64]])

    def test_cleaning_beyond_the_last_lift_does_not_count(self):
        calls = [start(10, 60), mould(0), blade(0, 30), put(0)]
        self.assertEqual(ask_last(*calls, idle(0)), [0])
        self.assertEqual(ask(*calls, pass_by(70), idle(0), over())[5:], [[0], [70]])

    def test_a_mould_whose_job_begins_later_than_now(self):
        # The last is out at 150: mould 0 is unused from 0 up to 100, and from 145 on.
        self.assertEqual(ask(*TWO_JOBS, idle(0), idle(1))[7:], [[105], [100]])
        self.assertEqual(ask(*TWO_JOBS, pass_by(99), idle(0), idle(1))[8:], [[6], [1]])
        self.assertEqual(ask(*TWO_JOBS, pass_by(100), idle(0), idle(1))[8:], [[5], [0]])
        self.assertEqual(ask(*TWO_JOBS, pass_by(101), idle(0), idle(1))[8:], [[5], [0]])
        self.assertEqual(ask(*NOT_CLEANED, idle(0), idle(1))[7:], [[110], [100]])

    def test_several_jobs_with_gaps(self):
        # Used from 10 up to 28 and from 50 up to 68; the last is out at 63.
        calls = [start(10, 5), mould(0), blade(0, 3), at(0, 0, 10), blade(0, 3), at(0, 0, 50)]
        self.assertEqual(ask(*calls, idle(0), pass_by(15), idle(0), cancel(1), idle(0))[6:],
                         [[32], [15], [22], [0], [0]])

    def test_no_such_mould(self):
        self.assertEqual(ask(start(1, 0), idle(0), mould(0), idle(0), idle(1), idle(HIGHEST)),
                         [[0], [-2], [0], [0], [-2], [-2]])
        self.assertEqual(ask(start(1, 0), *[mould(0)] * 4, idle(3), idle(4))[5:], [[0], [-2]])


class Job(unittest.TestCase):
    def test_mould_kind_begin_ready_and_lift(self):
        self.assertEqual(ask(*TWO_JOBS, job(0), job(1))[7:], [[0, 0, 100, 130, 130], [1, 1, 100, 125, 140]])
        self.assertEqual(ask_last(start(7, 3), mould(1), mould(1), mould(3), blade(3, 40), put(0), job(0)),
                         [2, 3, 0, 40, 40])

    def test_no_such_job(self):
        self.assertEqual(ask(start(1, 0), job(0), job(HIGHEST))[1:], [[-2], [-2]])
        self.assertEqual(ask(*TWO_JOBS, job(2), job(12), job(HIGHEST))[7:], [[-2], [-2], [-2]])

    def test_a_blade_that_waits_is_none(self):
        self.assertEqual(ask_last(start(1, 0), mould(0), blade(0, 5), job(0)), [-2])

    def test_it_stays_as_it_was_when_time_goes_by(self):
        self.assertEqual(ask(*TWO_JOBS, pass_by(144), job(0), job(1), pass_by(1), job(0), job(1), pass_by(9), job(1),
                             pass_by(1), job(1))[7:],
                         [[144], [0, 0, 100, 130, 130], [1, 1, 100, 125, 140], [145], [-2], [1, 1, 100, 125, 140],
                          [154], [1, 1, 100, 125, 140], [155], [-2]])

    def test_it_stays_as_it_was_when_another_is_cancelled(self):
        self.assertEqual(ask(*TWO_JOBS, cancel(0), job(0), job(1))[8:], [[-2], [1, 1, 100, 125, 140]])

    def test_a_number_that_is_free_again(self):
        calls = [*TWO_JOBS, blade(0, 9), cancel(0), put(0)]
        self.assertEqual(ask(*calls, job(0), job(1), job(2))[8:],
                         [[1], [0, 0, 0, 9], [0, 0, 0, 9, 9], [1, 1, 100, 125, 140], [-2]])


class Waiting(unittest.TestCase):
    def test_how_many_and_which_rising(self):
        calls = [start(1, 0), waiting(), blade(2, 9), waiting(), blade(0, 9), blade(1, 9), blade(0, 9), blade(0, 9)]
        self.assertEqual(ask(*calls, waiting(), drop(0), drop(3), waiting(), blade(0, 1), waiting())[1:],
                         [[0], [0], [1, 0], [1], [2], [3], [4], [5, 0, 1, 2, 3, 4], [9], [9], [3, 1, 2, 4], [0],
                          [4, 0, 1, 2, 4]])

    def test_jobs_do_not_wait_and_cancelled_ones_do(self):
        calls = [start(1, 0), mould(0), blade(0, 9), blade(0, 9), blade(0, 9), put(1), waiting(), put(0), waiting(),
                 cancel(0), waiting()]
        self.assertEqual(ask(*calls)[5:], [[0, 0, 0, 9], [2, 0, 2], [1, 0, 10, 19], [1, 2], [0], [2, 0, 2]])


class State(unittest.TestCase):
    def test_nothing_is_there_behind_a_start(self):
        self.assertEqual(ask(start(1, 0), state()), [[0], [0, 0, 0, 0, 0]])

    def test_minute_moulds_those_that_wait_and_jobs(self):
        calls = [start(10, 5), mould(0), mould(1), mould(1), blade(0, 9), blade(1, 9), put(0), state(), pass_by(4),
                 state(), blade(3, 1), blade(3, 1), blade(3, 1), state(), mould(0), drop(1), state()]
        told = ask(*calls)
        self.assertEqual([told[7], told[9], told[13], told[16]],
                         [[0, 3, 1, 1, 0], [4, 3, 1, 1, 0], [4, 3, 4, 1, 0], [4, 4, 3, 1, 0]])

    def test_jobs_that_are_done_are_counted(self):
        self.assertEqual(
            ask(*TWO_JOBS, state(), pass_by(144), state(), pass_by(1), state(), pass_by(10), state(), pass_by(1),
                state())[7::2],
            [[0, 2, 0, 2, 0], [144, 2, 0, 2, 0], [145, 2, 0, 1, 1], [155, 2, 0, 0, 2], [156, 2, 0, 0, 2]])

    def test_several_are_done_by_one_pass(self):
        calls = [start(1, 0), mould(0), *[blade(0, 9)] * 5, follow(), pass_by(30), state(), blade(0, 1), put(0),
                 pass_by(1000), state()]
        told = ask(*calls)
        self.assertEqual([told[9], told[-1]], [[30, 1, 0, 2, 3], [1030, 1, 0, 0, 6]])

    def test_dropped_and_cancelled_ones_are_not_done(self):
        self.assertEqual(ask_last(*TWO_JOBS, cancel(0), drop(0), pass_by(1), state()), [1, 2, 0, 1, 0])

    def test_behind_a_second_start(self):
        calls = [*TWO_JOBS, blade(0, 9), pass_by(145), state()]
        self.assertEqual(ask(*calls, start(2, 1), state(), waiting(), over(), crane(140), lifts(0), job(1), free_at(0),
                             inside(1, 140), idle(0), mould(1), inside(0, 140), state())[9:],
                         [[145, 2, 1, 1, 1], [0], [0, 0, 0, 0, 0], [0], [0], [-33], [0], [-2], [-2], [-2], [-2], [0],
                          [-33], [0, 1, 0, 0, 0]])

    def test_a_second_start_that_is_refused_changes_nothing(self):
        calls = [*TWO_JOBS, blade(0, 9), pass_by(145)]
        for refused in [start(0, 5), start(61, 5), start(10, 61), start(HIGHEST, HIGHEST)]:
            self.assertEqual(ask(*calls, refused, state(), crane(149), crane(150))[9:],
                             [[-22], [145, 2, 1, 1, 1], [1], [-33]])


if __name__ == "__main__":
    unittest.main()
