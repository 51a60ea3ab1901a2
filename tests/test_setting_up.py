import unittest

from tests.helper import HIGHEST, ask, ask_last, best, blade, drop, mould, order, pass_by, plan, put, start


class Start(unittest.TestCase):
    def test_the_edges_of_lift(self):
        for lift, told in [(0, -22), (1, 0), (2, 0), (60, 0), (61, -22), (HIGHEST, -22)]:
            self.assertEqual(ask(start(lift, 0)), [[told]], lift)

    def test_the_edges_of_clean(self):
        for clean, told in [(0, 0), (1, 0), (60, 0), (61, -22), (HIGHEST, -22)]:
            self.assertEqual(ask(start(1, clean)), [[told]], clean)

    def test_the_longest_lift_and_clean_are_used(self):
        self.assertEqual(
            ask(start(60, 60), mould(0), blade(0, 1), blade(0, 1), put(0), put(1))[4:],
            [[0, 0, 0, 1], [1, 0, 121, 122]])

    def test_the_shortest_lift_and_no_cleaning_are_used(self):
        self.assertEqual(
            ask(start(1, 0), mould(0), blade(0, 1), blade(0, 1), put(0), put(1))[4:],
            [[0, 0, 0, 1], [1, 0, 2, 3]])


class Mould(unittest.TestCase):
    def test_numbers_and_the_edge_of_kind(self):
        self.assertEqual(
            ask(start(1, 0), mould(3), mould(4), mould(0), mould(HIGHEST), mould(3)),
            [[0], [0], [-22], [1], [-22], [2]])

    def test_there_are_4_at_most(self):
        self.assertEqual(
            ask(start(1, 0), mould(0), mould(1), mould(2), mould(3), mould(0), mould(0)),
            [[0], [0], [1], [2], [3], [-28], [-28]])

    def test_a_wrong_kind_goes_ahead_of_too_many(self):
        self.assertEqual(ask_last(start(1, 0), *[mould(0)] * 4, mould(4)), [-22])

    def test_what_is_refused_makes_no_mould(self):
        self.assertEqual(ask(start(1, 0), mould(4), blade(0, 1), best(0))[3], [-33])
        self.assertEqual(ask(start(1, 0), *[mould(0)] * 4, mould(1), blade(1, 1), best(0))[7], [-33])

    def test_a_mould_is_of_the_kind_told(self):
        for kind in range(4):
            calls = [start(1, 0), mould(kind)] + [blade(other, 5) for other in range(4)]
            told = ask(*calls, *[best(other) for other in range(4)])[6:]
            self.assertEqual(told, [[6, 0, 0, 5] if other == kind else [-33] for other in range(4)])


class Blade(unittest.TestCase):
    def test_the_edges_of_kind(self):
        for kind, told in [(0, 0), (3, 0), (4, -22), (HIGHEST, -22)]:
            self.assertEqual(ask_last(start(1, 0), blade(kind, 1)), [told], kind)

    def test_the_edges_of_minutes(self):
        for minutes, told in [(0, -22), (1, 0), (200, 0), (201, -22), (HIGHEST, -22)]:
            self.assertEqual(ask_last(start(1, 0), blade(0, minutes)), [told], minutes)

    def test_5_wait_at_most(self):
        self.assertEqual(
            ask(start(1, 0), *[blade(0, 9)] * 7), [[0], [0], [1], [2], [3], [4], [-28], [-28]])

    def test_what_is_wrong_goes_ahead_of_too_many(self):
        full = [start(1, 0)] + [blade(0, 9)] * 5
        for wrong in [blade(4, 9), blade(0, 0), blade(0, 201), blade(4, 0)]:
            self.assertEqual(ask_last(*full, wrong), [-22])

    def test_what_is_refused_does_not_wait(self):
        self.assertEqual(ask(start(1, 0), blade(0, 201), blade(4, 1), drop(0))[3], [-2])
        self.assertEqual(ask(start(1, 0), *[blade(0, 9)] * 6, drop(5))[7], [-2])

    def test_a_blade_of_a_kind_without_a_mould_waits(self):
        self.assertEqual(ask(start(1, 0), blade(2, 9), mould(0), blade(3, 8), drop(0), drop(1))[1:],
                         [[0], [0], [1], [9], [8]])

    def test_a_number_that_is_free_again(self):
        self.assertEqual(
            ask(start(1, 0), *[blade(0, 9)] * 5, drop(3), drop(1), blade(0, 11), blade(0, 13), blade(0, 17),
                drop(1), drop(3))[6:],
            [[9], [9], [1], [3], [-28], [11], [13]])

    def test_a_number_is_free_again_when_its_blade_is_a_job(self):
        self.assertEqual(
            ask(start(1, 0), mould(0), blade(0, 9), blade(0, 8), put(0), blade(0, 7), drop(0), drop(1))[4:],
            [[0, 0, 0, 9], [0], [7], [8]])


class Drop(unittest.TestCase):
    def test_it_waits_no_more(self):
        self.assertEqual(
            ask(start(1, 0), mould(0), blade(0, 200), blade(0, 1), drop(0), drop(0), best(0), put(0), order([0]),
                plan(), drop(1), plan())[4:],
            [[200], [-2], [-2], [-2], [-33], [2, 1], [1], [0]])

    def test_there_is_no_such_blade(self):
        self.assertEqual(ask(start(1, 0), drop(0), blade(0, 1), drop(1), drop(5), drop(HIGHEST))[1:],
                         [[-2], [0], [-2], [-2], [-2]])

    def test_a_job_does_not_wait(self):
        self.assertEqual(ask_last(start(1, 0), mould(0), blade(0, 1), put(0), drop(0)), [-2])

    def test_time_that_went_by_changes_no_minutes(self):
        self.assertEqual(ask_last(start(1, 0), blade(0, 50), pass_by(30), drop(0)), [50])


if __name__ == "__main__":
    unittest.main()
