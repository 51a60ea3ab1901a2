"""What holds, asked of the calls themselves minute by minute, behind lists of calls made by a fixed seed."""

import unittest

from tests.helper import (
    ask, ask_behind, best, crane, follow, free_at, idle, inside, job, lifts, order, over, plan, put, state, waiting)
from tests.test_what_holds import make_calls

PUT, AT, CANCEL, PASS_BY, FOLLOW = 5, 6, 7, 8, 11


def cut_behind(calls, told, number):
    """The calls up to the last of that number that wasn't refused; None if there's no such one."""
    places = [place for place, call in enumerate(calls) if call[0] == number and told[place][0] >= 0]
    return calls[:places[-1] + 1] if places else None


def lists_behind(number, many):
    """So many seeds with lists of calls whose last call is of that number, and wasn't refused."""
    found = []
    seed = 0
    while len(found) < many:
        calls = make_calls(seed, 60)
        cut = cut_behind(calls, ask(*calls), number)
        if cut:
            found.append((seed, cut))
        seed += 1
    return found


class Minutes:
    """All that crane and inside tell, from minute 0 on till nothing more is used."""

    def __init__(self, calls):
        self.calls = calls
        self.lift, self.clean = calls[0][1:]
        self.now, self.moulds, self.waits, self.many, self.done = ask(*calls, state())[-1]
        self.jobs = {j: told for j, told in enumerate(ask_behind(calls, [job(j) for j in range(12)])) if len(told) > 1}
        self.over = ask(*calls, over())[-1][0]
        self.behind = max([self.over + self.clean] + [told[4] + self.lift + self.clean for told in self.jobs.values()])
        self.range = range(self.behind + 2)
        self.crane = [told[0] for told in ask_behind(calls, [crane(t) for t in self.range])]
        self.inside = [ask_behind(calls, [inside(m, t) for t in self.range]) for m in range(self.moulds)]


class OneLiftAtATime(unittest.TestCase):
    def hold(self, seed, calls):
        seen = Minutes(calls)
        kinds = [call[1] for call, told in zip(calls, ask(*calls)) if call[0] == 1 and told[0] >= 0]
        self.assertEqual(len(seen.jobs), seen.many)
        for t in seen.range:
            lifted = [seen.inside[m][t][0] for m in range(seen.moulds) if seen.inside[m][t][1:] == [2]]
            self.assertEqual(lifted or [-33], [seen.crane[t]], (seed, t))
        for j, (m, kind, begin, ready, lifted) in seen.jobs.items():
            self.assertEqual(kinds[m], kind, (seed, j))
            parts = [told[1] for told in seen.inside[m] if told[0] == j]
            whole = [0] * (ready - begin) + [1] * (lifted - ready) + [2] * seen.lift + [3] * seen.clean
            self.assertEqual(parts, whole, (seed, j))
            self.assertEqual(seen.inside[m][begin], [j, 0], (seed, j))
            self.assertGreaterEqual(lifted, ready, (seed, j))
            self.assertEqual([t for t in seen.range if seen.crane[t] == j], list(range(lifted, lifted + seen.lift)))
            self.assertEqual([told[0] for told in seen.inside[m][begin:begin + len(whole)]], [j] * len(whole))
        for m in range(seen.moulds):
            inside_it = {told[0] for told in seen.inside[m]} - {-33}
            self.assertEqual(inside_it, {j for j, told in seen.jobs.items() if told[0] == m}, (seed, m))
        return len(seen.jobs)

    def hold_behind(self, number):
        jobs = sum(self.hold(seed, calls) for seed, calls in lists_behind(number, 20))
        self.assertGreater(jobs, 30)

    def test_behind_put(self):
        self.hold_behind(PUT)

    def test_behind_at(self):
        self.hold_behind(AT)

    def test_behind_follow(self):
        self.hold_behind(FOLLOW)

    def test_behind_cancel(self):
        self.hold_behind(CANCEL)

    def test_behind_pass(self):
        self.hold_behind(PASS_BY)


class ByNoOtherOrder(unittest.TestCase):
    def test_follow_does_what_plan_best_and_order_tell(self):
        followed = 0
        for seed in range(150):
            calls = make_calls(seed, 50)
            told = ask(*calls, plan(), follow(), over(), waiting(), *[job(j) for j in range(12)])[50:]
            if told[1][0] < 0:
                continue
            row = told[0][1:]
            followed += len(row) > 2
            self.assertEqual(told[1], told[0][:1], seed)
            self.assertEqual(told[2], told[1], seed)
            self.assertEqual(told[3], [0], seed)
            self.assertEqual(ask(*calls, order(row))[-1], told[1], seed)
            by_hand = [call for w in row for call in (best(w), put(w))]
            told_by_hand = ask(*calls, *by_hand, *[job(j) for j in range(12)])[50:]
            self.assertEqual(told_by_hand[2 * len(row):], told[4:], seed)
            for place in range(len(row)):
                told_best, told_put = told_by_hand[2 * place:2 * place + 2]
                self.assertEqual(told_best[1:], told_put[1:], seed)
                mould_told, kind, begin, ready, lifted = told[4 + told_put[0]]
                self.assertEqual([mould_told, begin, lifted], told_best[1:], seed)
        self.assertGreater(followed, 15)

    def test_plan_and_follow_are_refused_for_the_same_moulds(self):
        refused = 0
        for seed in range(150):
            told = ask(*make_calls(seed, 30), plan(), follow())[30:]
            self.assertEqual(told[0] == [-33], told[1] == [-33], seed)
            refused += told[0] == [-33]
        self.assertGreater(refused, 5)


class TheCraneHasTime(unittest.TestCase):
    def test_lifts_tells_the_first_minute_and_no_later_one(self):
        later = 0
        for seed, calls in lists_behind(PUT, 25) + lists_behind(PASS_BY, 10):
            seen = Minutes(calls)
            asked = range(seen.now, seen.behind + 2)
            told = ask_behind(calls, [lifts(t) for t in asked])
            busy = {t for t in seen.range if seen.crane[t] >= 0}
            for t, answer in zip(asked, told):
                first = t
                while not busy.isdisjoint(range(first, first + seen.lift)):
                    first += 1
                self.assertEqual(answer, [first], (seed, t))
                later += first > t
        self.assertGreater(later, 100)

    def test_free_at_over_and_idle_are_as_the_minutes_say(self):
        for seed, calls in lists_behind(PUT, 15) + lists_behind(CANCEL, 15) + lists_behind(PASS_BY, 15):
            seen = Minutes(calls)
            last_lift = max([t for t in seen.range if seen.crane[t] >= 0], default=-1)
            self.assertEqual(seen.over, max(seen.now, last_lift + 1), seed)
            for m in range(seen.moulds):
                used = [t for t in seen.range if seen.inside[m][t] != [-33]]
                unused = [t for t in range(seen.now, seen.over) if t not in used]
                told = ask(*calls, free_at(m), idle(m))[-2:]
                self.assertEqual(told, [[max(used + [seen.now - 1]) + 1], [len(unused)]], (seed, m))


if __name__ == "__main__":
    unittest.main()
