"""What each call does, and the numbers that it answers.

Each takes the works and the list of numbers that stand behind the call's own.
"""

from bladecrane.orders import best_order, end_of_order
from bladecrane.placing import best_job, has_mould, job_from, mould_is_used
from bladecrane.refusals import BEGUN, FULL, IN_USE, NONE_SUCH, NOT_POSSIBLE, NOT_STARTED, OUT_OF_RANGE
from bladecrane.works import Blade, add_waiting, make_job, make_waiting

LONGEST_LIFT = 60
LONGEST_CLEAN = 60
HIGHEST_KIND = 3
LONGEST_IN_MOULD = 200
MOST_MOULDS = 4
MOST_WAITING = 5
MOST_JOBS = 12
FARTHEST_AHEAD = 300
LONGEST_PASS = 1000
LAST_MINUTE = 100000


def start_anew(works, given):
    lift = given[0]
    clean = given[1]
    if not 1 <= lift <= LONGEST_LIFT or clean > LONGEST_CLEAN:
        return [OUT_OF_RANGE]
    works.make_empty(lift, clean)
    works.started = True
    return [0]


def add_mould(works, given):
    kind = given[0]
    if kind > HIGHEST_KIND:
        return [OUT_OF_RANGE]
    if len(works.moulds) >= MOST_MOULDS:
        return [FULL]
    works.moulds.append(kind)
    return [len(works.moulds) - 1]


def add_blade(works, given):
    kind = given[0]
    minutes = given[1]
    if kind > HIGHEST_KIND or not 1 <= minutes <= LONGEST_IN_MOULD:
        return [OUT_OF_RANGE]
    if len(works.waiting) >= MOST_WAITING:
        return [FULL]
    return [add_waiting(works, Blade(kind, minutes))]


def drop_blade(works, given):
    number = given[0]
    if number not in works.waiting:
        return [NONE_SUCH]
    blade = works.waiting.pop(number)
    return [blade.minutes]


def tell_best(works, given):
    number = given[0]
    if number not in works.waiting:
        return [NONE_SUCH]
    blade = works.waiting[number]
    if not has_mould(works, blade):
        return [NOT_POSSIBLE]
    job = best_job(works, list(works.jobs.values()), blade)
    return [job.out, job.mould, job.begin, job.lifted]


def put_blade(works, given):
    number = given[0]
    if number not in works.waiting:
        return [NONE_SUCH]
    blade = works.waiting[number]
    if not has_mould(works, blade):
        return [NOT_POSSIBLE]
    if len(works.jobs) >= MOST_JOBS:
        return [FULL]
    job = best_job(works, list(works.jobs.values()), blade)
    return [make_job(works, number, job), job.mould, job.begin, job.lifted]


def put_blade_at(works, given):
    number = given[0]
    mould = given[1]
    begin = given[2]
    if number not in works.waiting or mould >= len(works.moulds):
        return [NONE_SUCH]
    blade = works.waiting[number]
    if works.moulds[mould] != blade.kind or not 0 <= begin - works.minute <= FARTHEST_AHEAD:
        return [OUT_OF_RANGE]
    jobs = list(works.jobs.values())
    job = job_from(works, jobs, blade, mould, begin)
    if mould_is_used(jobs, job):
        return [IN_USE]
    if len(jobs) >= MOST_JOBS:
        return [FULL]
    return [make_job(works, number, job), job.lifted]


def cancel_job(works, given):
    number = given[0]
    if number not in works.jobs:
        return [NONE_SUCH]
    if works.jobs[number].begin < works.minute:
        return [BEGUN]
    if len(works.waiting) >= MOST_WAITING:
        return [FULL]
    return [make_waiting(works, number)]


def pass_by(works, given):
    minutes = given[0]
    if not 1 <= minutes <= LONGEST_PASS or works.minute + minutes > LAST_MINUTE:
        return [OUT_OF_RANGE]
    works.minute += minutes
    for number in list(works.jobs):
        if works.jobs[number].free <= works.minute:
            works.jobs.pop(number)
    return [works.minute]


def can_be_put(works, number):
    return number in works.waiting and has_mould(works, works.waiting[number])


def tell_order(works, given):
    order = given[1:]
    if len(set(order)) < len(order):
        return [NOT_POSSIBLE]
    for number in order:
        if not can_be_put(works, number):
            return [NOT_POSSIBLE]
    return [end_of_order(works, order)]


def tell_plan(works, given):
    for number in works.waiting:
        if not can_be_put(works, number):
            return [NOT_POSSIBLE]
    found = best_order(works)
    return [found[0]] + found[1]


# A call's number is its place in both of these.
REPLIES = (
    start_anew,
    add_mould,
    add_blade,
    drop_blade,
    tell_best,
    put_blade,
    put_blade_at,
    cancel_job,
    pass_by,
    tell_order,
    tell_plan,
)
GIVEN_COUNTS = (2, 1, 2, 1, 1, 1, 3, 1, 1, 0, 0)
START = 0
ORDER = 9


# A row has its length ahead of it, which is one number more.
def count_given(calls, place):
    number = calls[place]
    if number == ORDER:
        return 1 + calls[place + 1]
    return GIVEN_COUNTS[number]


def reply_to(works, number, given):
    if number != START and not works.started:
        return [NOT_STARTED]
    reply = REPLIES[number]
    return reply(works, given)
