"""What each call does and answers: those up to follow stand here, the others in tellings.

Each takes the works and the list of numbers that stand behind the call's own.
"""

from bladecrane.limits import FARTHEST_AHEAD, HIGHEST_KIND, LAST_MINUTE, LONGEST_CLEAN, LONGEST_IN_MOULD
from bladecrane.limits import LONGEST_LIFT, LONGEST_PASS, MOST_JOBS, MOST_MOULDS, MOST_WAITING
from bladecrane.orders import best_order, end_of_order
from bladecrane.placing import best_job, has_mould, job_from, mould_is_used
from bladecrane.refusals import BEGUN, FULL, IN_USE, NONE_SUCH, NOT_POSSIBLE, NOT_STARTED, OUT_OF_RANGE
from bladecrane.tellings import TELLINGS
from bladecrane.works import Blade, add_waiting, all_jobs, is_mould, make_job, make_waiting


def start_anew(works, given):
    lift = given[0]
    clean = given[1]
    if not 1 <= lift <= LONGEST_LIFT or clean > LONGEST_CLEAN:
        return [OUT_OF_RANGE]
    works.make_empty(lift, clean)
    works.started = True
    return [0]


def add_mould(works, given):
    kind = given[0]
    if kind > HIGHEST_KIND:
        return [OUT_OF_RANGE]
    if len(works.moulds) >= MOST_MOULDS:
        return [FULL]
    works.moulds.append(kind)
    return [len(works.moulds) - 1]


def add_blade(works, given):
    kind = given[0]
    minutes = given[1]
    if kind > HIGHEST_KIND or not 1 <= minutes <= LONGEST_IN_MOULD:
        return [OUT_OF_RANGE]
    if len(works.waiting) >= MOST_WAITING:
        return [FULL]
    return [add_waiting(works, Blade(kind, minutes))]


def drop_blade(works, given):
    number = given[0]
    if number not in works.waiting:
        return [NONE_SUCH]
    blade = works.waiting.pop(number)
    return [blade.minutes]


def tell_best(works, given):
    number = given[0]
    if number not in works.waiting:
        return [NONE_SUCH]
    blade = works.waiting[number]
    if not has_mould(works, blade):
        return [NOT_POSSIBLE]
    job = best_job(works, all_jobs(works), blade)
    return [job.out, job.mould, job.begin, job.lifted]


def put_into_best(works, number):
    job = best_job(works, all_jobs(works), works.waiting[number])
    return make_job(works, number, job)


def put_blade(works, given):
    number = given[0]
    if number not in works.waiting:
        return [NONE_SUCH]
    if not has_mould(works, works.waiting[number]):
        return [NOT_POSSIBLE]
    if len(works.jobs) >= MOST_JOBS:
        return [FULL]
    job_number = put_into_best(works, number)
    job = works.jobs[job_number]
    return [job_number, job.mould, job.begin, job.lifted]


def put_blade_at(works, given):
    number = given[0]
    mould = given[1]
    begin = given[2]
    if number not in works.waiting or not is_mould(works, mould):
        return [NONE_SUCH]
    blade = works.waiting[number]
    if works.moulds[mould] != blade.kind or not 0 <= begin - works.minute <= FARTHEST_AHEAD:
        return [OUT_OF_RANGE]
    jobs = all_jobs(works)
    job = job_from(works, jobs, blade, mould, begin)
    if mould_is_used(jobs, job):
        return [IN_USE]
    if len(jobs) >= MOST_JOBS:
        return [FULL]
    return [make_job(works, number, job), job.lifted]


def cancel_job(works, given):
    number = given[0]
    if number not in works.jobs:
        return [NONE_SUCH]
    if works.jobs[number].begin < works.minute:
        return [BEGUN]
    if len(works.waiting) >= MOST_WAITING:
        return [FULL]
    return [make_waiting(works, number)]


def pass_by(works, given):
    minutes = given[0]
    if not 1 <= minutes <= LONGEST_PASS or works.minute + minutes > LAST_MINUTE:
        return [OUT_OF_RANGE]
    works.minute += minutes
    for number in list(works.jobs):
        if works.jobs[number].free <= works.minute:
            works.jobs.pop(number)
            works.done += 1
    return [works.minute]


def can_be_put(works, number):
    return number in works.waiting and has_mould(works, works.waiting[number])


def tell_order(works, given):
    order = given[1:]
    if len(set(order)) < len(order):
        return [NOT_POSSIBLE]
    if not all([can_be_put(works, number) for number in order]):
        return [NOT_POSSIBLE]
    return [end_of_order(works, order)]


def all_can_be_put(works):
    return all([can_be_put(works, number) for number in works.waiting])


def tell_plan(works, given):
    if not all_can_be_put(works):
        return [NOT_POSSIBLE]
    found = best_order(works)
    return [found[0]] + found[1]


def follow_plan(works, given):
    if not all_can_be_put(works):
        return [NOT_POSSIBLE]
    if len(works.jobs) + len(works.waiting) > MOST_JOBS:
        return [FULL]
    found = best_order(works)
    for number in found[1]:
        put_into_best(works, number)
    return [found[0]]


# A call's number is its place here; those of TELLINGS follow on.
REPLIES = (
    start_anew,
    add_mould,
    add_blade,
    drop_blade,
    tell_best,
    put_blade,
    put_blade_at,
    cancel_job,
    pass_by,
    tell_order,
    tell_plan,
    follow_plan,
)
# How many whole numbers stand behind each call's own, of all 21 calls.
GIVEN_COUNTS = (2, 1, 2, 1, 1, 1, 3, 1, 1, 0, 0, 0, 0, 1, 2, 1, 1, 1, 1, 0, 0)
START = 0
ORDER = 9


# A row has its length ahead of it, which is one number more.
def count_given(calls, place):
    number = calls[place]
    if number == ORDER:
        return 1 + calls[place + 1]
    return GIVEN_COUNTS[number]


def reply_to(works, number, given):
    if number != START and not works.started:
        return [NOT_STARTED]
    if number < len(REPLIES):
        reply = REPLIES[number]
    else:
        reply = TELLINGS[number - len(REPLIES)]
    return reply(works, given)
