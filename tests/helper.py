"""How the tests write calls, and read their answers."""

from bladecrane.hall import answers

HIGHEST = 4294967295
MOST_CALLS = 200


def start(lift, clean):
    return [0, lift, clean]


def mould(kind):
    return [1, kind]


def blade(kind, minutes):
    return [2, kind, minutes]


def drop(w):
    return [3, w]


def best(w):
    return [4, w]


def put(w):
    return [5, w]


def at(w, m, t):
    return [6, w, m, t]


def cancel(j):
    return [7, j]


def pass_by(n):
    return [8, n]


def order(row):
    return [9, len(row)] + list(row)


def plan():
    return [10]


def follow():
    return [11]


def over():
    return [12]


def crane(t):
    return [13, t]


def inside(m, t):
    return [14, m, t]


def free_at(m):
    return [15, m]


def lifts(t):
    return [16, t]


def idle(m):
    return [17, m]


def job(j):
    return [18, j]


def waiting():
    return [19]


def state():
    return [20]


def split(told):
    """Each call's numbers as a list of its own."""
    found = []
    place = 0
    while place < len(told):
        behind = place + 1 + told[place]
        if told[place] < 1 or behind > len(told):
            raise AssertionError(f"a count is wrong at {place}: {told}")
        found.append(told[place + 1:behind])
        place = behind
    return found


def ask(*calls):
    """What each of these calls answers, on one new object."""
    if len(calls) > MOST_CALLS:
        raise AssertionError(f"{len(calls)} calls in one list")
    found = split(answers([number for call in calls for number in call]))
    if len(found) != len(calls):
        raise AssertionError(f"{len(calls)} calls, {len(found)} answers")
    return found


def ask_last(*calls):
    return ask(*calls)[-1]


def ask_behind(calls, questions):
    """What each question answers behind these calls; they must change nothing, as a list holds only so many calls."""
    many = MOST_CALLS - len(calls)
    told = []
    for place in range(0, len(questions), many):
        told += ask(*calls, *questions[place:place + many])[len(calls):]
    return told
