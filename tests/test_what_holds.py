"""Long lists of calls, made by a fixed seed, held against a model that marks every minute by itself."""

import itertools
import random
import unittest

from tests.helper import (
    HIGHEST, ask, at, best, blade, cancel, crane, drop, follow, free_at, idle, inside, job, lifts, mould, order, over,
    pass_by, plan, put, start, state, waiting)

NAMES = """start mould blade drop best put at cancel pass_by order plan follow over crane inside free_at lifts idle job
    waiting state""".split()


def least_free(taken):
    return next(number for number in itertools.count() if number not in taken)


class Model:
    """The document's words, minute by minute. A job is (kind, minutes, mould, begin, lifted)."""

    def __init__(self):
        self.started = False

    def start(self, lift, clean):
        if lift not in range(1, 61) or clean not in range(61):
            return [-22]
        self.started, self.lift, self.clean, self.now = True, lift, clean, 0
        self.moulds, self.waits, self.jobs, self.done = [], {}, {}, 0
        return [0]

    def mould_minutes(self, job):
        return range(job[3], job[4] + self.lift + self.clean)

    def used_minutes(self, jobs, mould):
        return {minute for job in jobs if job[2] == mould for minute in self.mould_minutes(job)}

    def lift_from(self, jobs, minute):
        busy = {taken for job in jobs for taken in self.lift_minutes(job)}
        return next(first for first in itertools.count(minute)
                    if busy.isdisjoint(range(first, first + self.lift)))

    def lift_minutes(self, job):
        return range(job[4], job[4] + self.lift)

    def in_mould(self, jobs, waiting, mould, begin):
        kind, minutes = waiting
        return (kind, minutes, mould, begin, self.lift_from(jobs, begin + minutes))

    def best_job(self, jobs, waiting):
        tries = []
        for mould, kind in enumerate(self.moulds):
            if kind == waiting[0]:
                begin = max(self.used_minutes(jobs, mould) | {self.now - 1}) + 1
                tries.append(self.in_mould(jobs, waiting, mould, begin))
        return min(tries, key=lambda job: (job[4], job[2]), default=None)

    def end(self, jobs):
        return max([self.now] + [job[4] + self.lift for job in jobs])

    def end_of(self, row):
        jobs = list(self.jobs.values())
        for w in row:
            jobs.append(self.best_job(jobs, self.waits[w]))
        return self.end(jobs)

    def make_job(self, w, job):
        self.waits.pop(w)
        number = least_free(self.jobs)
        self.jobs[number] = job
        return number

    def mould(self, kind):
        if kind > 3:
            return [-22]
        if len(self.moulds) == 4:
            return [-28]
        self.moulds.append(kind)
        return [len(self.moulds) - 1]

    def wait(self, waiting):
        number = least_free(self.waits)
        self.waits[number] = waiting
        return [number]

    def blade(self, kind, minutes):
        if kind not in range(4) or minutes not in range(1, 201):
            return [-22]
        return [-28] if len(self.waits) == 5 else self.wait((kind, minutes))

    def drop(self, w):
        return [self.waits.pop(w)[1]] if w in self.waits else [-2]

    def best(self, w):
        if w not in self.waits:
            return [-2]
        job = self.best_job(self.jobs.values(), self.waits[w])
        return [job[4] + self.lift, job[2], job[3], job[4]] if job else [-33]

    def put(self, w):
        told = self.best(w)
        if len(told) == 1:
            return told
        if len(self.jobs) == 12:
            return [-28]
        return [self.make_job(w, self.best_job(self.jobs.values(), self.waits[w]))] + told[1:]

    def at(self, w, m, t):
        if w not in self.waits or m not in range(len(self.moulds)):
            return [-2]
        if self.moulds[m] != self.waits[w][0] or t not in range(self.now, self.now + 301):
            return [-22]
        job = self.in_mould(self.jobs.values(), self.waits[w], m, t)
        if self.used_minutes(self.jobs.values(), m) & set(self.mould_minutes(job)):
            return [-17]
        return [-28] if len(self.jobs) == 12 else [self.make_job(w, job), job[4]]

    def cancel(self, j):
        if j not in self.jobs:
            return [-2]
        if self.jobs[j][3] < self.now:
            return [-16]
        return [-28] if len(self.waits) == 5 else self.wait(self.jobs.pop(j)[:2])

    def pass_by(self, n):
        if n not in range(1, 1001) or self.now + n > 100000:
            return [-22]
        self.now += n
        there = len(self.jobs)
        self.jobs = {j: job for j, job in self.jobs.items() if max(self.mould_minutes(job)) >= self.now}
        self.done += there - len(self.jobs)
        return [self.now]

    def order(self, row):
        if len(set(row)) < len(row) or any(w not in self.waits or self.waits[w][0] not in self.moulds for w in row):
            return [-33]
        return [self.end_of(row)]

    def plan(self):
        if any(kind not in self.moulds for kind, minutes in self.waits.values()):
            return [-33]
        soonest = min((self.end_of(row), row) for row in itertools.permutations(sorted(self.waits)))
        return [soonest[0]] + list(soonest[1])

    def follow(self):
        told = self.plan()
        if told == [-33]:
            return told
        if len(self.jobs) + len(self.waits) > 12:
            return [-28]
        for w in told[1:]:
            self.put(w)
        return told[:1]

    def over(self):
        return [self.end(self.jobs.values())]

    def crane(self, t):
        return [j for j, job in self.jobs.items() if t in self.lift_minutes(job)] or [-33]

    def inside(self, m, t):
        if m not in range(len(self.moulds)):
            return [-2]
        there = [j for j, job in self.jobs.items() if job[2] == m and t in self.mould_minutes(job)]
        if not there:
            return [-33]
        kind, minutes, mould, begin, lifted = self.jobs[there[0]]
        parts = [0] * minutes + [1] * (lifted - begin - minutes) + [2] * self.lift + [3] * self.clean
        return there + [parts[t - begin]]

    def free_at(self, m):
        if m not in range(len(self.moulds)):
            return [-2]
        return [max(self.used_minutes(self.jobs.values(), m) | {self.now - 1}) + 1]

    def lifts(self, t):
        return [self.lift_from(self.jobs.values(), t)] if t in range(self.now, 100001) else [-22]

    def idle(self, m):
        if m not in range(len(self.moulds)):
            return [-2]
        return [len(set(range(self.now, self.over()[0])) - self.used_minutes(self.jobs.values(), m))]

    def job(self, j):
        if j not in self.jobs:
            return [-2]
        kind, minutes, mould, begin, lifted = self.jobs[j]
        return [mould, kind, begin, begin + minutes, lifted]

    def waiting(self):
        return [len(self.waits)] + [w for w in range(5) if w in self.waits]

    def state(self):
        return [self.now, len(self.moulds), len(self.waits), len(self.jobs), self.done]

    def answer(self, call):
        if call[0] != 0 and not self.started:
            return [-11]
        name = NAMES[call[0]]
        if name == "order":
            return self.order(call[2:])
        return getattr(self, name)(*call[1:])


def make_question(source, now):
    """A call that changes nothing, of points 4 and 5."""
    t = source.choice([now, now + source.randint(-60, 120), now + source.randint(-5, 400)])
    far = source.choice([now - 1, now, 100000, 100001, HIGHEST])
    m = source.choice([0, 0, 1, 2, 3, 4, HIGHEST])
    return source.choice([
        over(), crane(t), crane(t), crane(far), inside(m, t), inside(m, t), inside(0, t), inside(m, far), free_at(m),
        lifts(t), lifts(far), idle(m), job(source.choice([0, 1, 2, source.randrange(13), HIGHEST])), waiting(),
        state()])


def make_calls(seed, many):
    """Calls that mostly do something, with kinds and minutes near one another so that lifts meet."""
    source = random.Random(seed)
    kinds = source.choice([1, 2, 2, 3])
    longest = source.choice([6, 25, 60, 200])
    opening = start(source.randint(1, source.choice([3, 12, 60])), source.choice([0, 0, 1, 7, source.randint(0, 60)]))
    calls = [opening] + [mould(source.randrange(kinds)) for _ in range(source.randint(1, 4))]
    now = 0
    while len(calls) < many:
        w = source.choice([0, 0, 1, 2, 3, 4, 5])
        pick = source.randrange(140)
        if pick >= 104:
            calls.append(make_question(source, now))
        elif pick >= 100:
            calls.append(follow())
        elif pick < 32:
            calls.append(blade(source.randrange(kinds), source.randint(1, longest)))
        elif pick < 40:
            calls.append(best(w))
        elif pick < 55:
            calls.append(put(w))
        elif pick < 67:
            calls.append(at(w, source.randrange(5), now + source.choice([-1, 0, 1, 300, 301, source.randint(0, 120)])))
        elif pick < 73:
            calls.append(cancel(source.randrange(13)))
        elif pick < 80:
            calls.append(pass_by(source.choice([1, 1, 2, source.randint(1, 40), source.randint(1, 90), 0, 1001])))
            now += calls[-1][1] if calls[-1][1] in range(1, 1001) else 0
        elif pick < 86:
            calls.append(order(source.sample(range(6), source.randint(0, 4))))
        elif pick < 90:
            calls.append(plan())
        elif pick < 93:
            calls.append(drop(w))
        elif pick < 95:
            calls.append(mould(source.randrange(5)))
        elif pick < 97:
            calls.append(blade(source.randrange(5), source.choice([0, 1, 200, 201, HIGHEST])))
        else:
            calls.append(start(source.choice([0, 61, HIGHEST]), source.choice([0, 61])))
    return [[max(number, 0) for number in call] for call in calls]


TIMES = [0, 20, 50, 60, 75, 101, 160]


class AgainstTheModel(unittest.TestCase):
    def test_long_lists(self):
        seen, parts = set(), set()
        for seed in range(150):
            model = Model()
            # Every third list has a second start in it, which is not refused.
            calls = make_calls(seed, 120) if seed % 3 else make_calls(seed, 70) + make_calls(seed + 1000, 70)
            for call, told in zip(calls, ask(*calls)):
                self.assertEqual(told, model.answer(call), (seed, call))
                seen.add((call[0], min(told[0], 0)))
                if call[0] == 14 and told[0] >= 0:
                    parts.add(told[1])
        every_refusal = {0: [-22], 1: [-22, -28], 2: [-22, -28], 3: [-2], 4: [-2, -33], 5: [-2, -33, -28],
                         6: [-2, -22, -17, -28], 7: [-2, -16, -28], 8: [-22], 9: [-33], 10: [-33], 11: [-33, -28],
                         12: [], 13: [-33], 14: [-2, -33], 15: [-2], 16: [-22], 17: [-2], 18: [-2], 19: [], 20: []}
        wanted = {(number, told) for number, row in every_refusal.items() for told in row + [0]}
        self.assertEqual(wanted - seen, set())
        self.assertEqual(parts, {0, 1, 2, 3})


class WhatHolds(unittest.TestCase):
    def test_one_lift_at_a_time_and_one_blade_in_a_mould(self):
        """Every job that comes of put and at, and isn't cancelled, with its minutes marked."""
        for seed in range(60):
            calls = [call for call in make_calls(seed, 150) if call[0] not in (7, 11)]
            lift, clean = calls[0][1:]
            told = ask(*calls)
            moulds, waits, lifted, used = [], {}, set(), set()
            for call, answer in zip(calls, told):
                if answer[0] < 0:
                    continue
                if call[0] == 1:
                    moulds.append(call[1])
                elif call[0] == 2:
                    waits[answer[0]] = call[1:]
                elif call[0] == 3:
                    waits.pop(call[1])
                elif call[0] in (5, 6):
                    kind, minutes = waits.pop(call[1])
                    in_mould, begin, from_when = answer[1:] if call[0] == 5 else (call[2], call[3], answer[1])
                    self.assertEqual(moulds[in_mould], kind)
                    self.assertGreaterEqual(from_when, begin + minutes)
                    lift_minutes = set(range(from_when, from_when + lift))
                    mould_minutes = {(in_mould, minute) for minute in range(begin, from_when + lift + clean)}
                    self.assertTrue(lifted.isdisjoint(lift_minutes), (seed, call))
                    self.assertTrue(used.isdisjoint(mould_minutes), (seed, call))
                    lifted |= lift_minutes
                    used |= mould_minutes

    def test_nowhere_is_it_out_sooner_than_where_it_is_put(self):
        """A blade is put, and, on like objects, told into each mould from when that one is free at last."""
        not_the_first = 0
        for seed in range(120):
            source = random.Random(seed)
            lift, clean = source.randint(1, 15), source.choice([0, 3, 9])
            calls = [start(lift, clean)] + [mould(source.choice([0, 0, 1])) for _ in range(4)]
            for _ in range(source.randint(1, 7)):
                calls += [blade(source.choice([0, 0, 1]), source.randint(1, 50)), put(0), drop(0)]
            calls += [pass_by(source.randint(1, 20)), blade(0, source.randint(1, 50))]
            told = ask(*calls, put(0))
            free_at = {m: told[-3][0] for m in range(4)}
            for answer in told[:-1]:
                if len(answer) == 4:
                    free_at[answer[1]] = max(free_at[answer[1]], answer[3] + lift + clean)
            placed = [ask(*calls, at(0, m, free_at[m]))[-1] for m in range(4)]
            lifts = [(answer[1], m) for m, answer in enumerate(placed) if answer[0] >= 0]
            if lifts:
                lifted, soonest = min(lifts)
                self.assertEqual(told[-1][1:], [soonest, free_at[soonest], lifted], seed)
                not_the_first += soonest > lifts[0][1]
        self.assertGreater(not_the_first, 20)

    def test_minutes_at_once_or_one_behind_another(self):
        for seed in range(40):
            calls = make_calls(seed, 40)
            behind = [state(), over(), waiting(), *[job(j) for j in range(12)], order([]), *[crane(t) for t in TIMES],
                      *[idle(m) for m in range(5)], *[free_at(m) for m in range(5)], *[lifts(t) for t in TIMES],
                      *[inside(m, t) for m in range(2) for t in TIMES], *[best(w) for w in range(5)], plan(),
                      cancel(0), put(0), follow(), state(), *[cancel(j) for j in range(12)], blade(0, 3), at(0, 0, 60),
                      drop(0), mould(0), state()]
            for minutes in [1, 2, 17, 60]:
                at_once = ask(*calls, pass_by(minutes), *behind)
                singly = ask(*calls, *[pass_by(1)] * minutes, *behind)
                self.assertEqual(at_once[len(calls):], singly[len(calls) + minutes - 1:], (seed, minutes))


if __name__ == "__main__":
    unittest.main()
