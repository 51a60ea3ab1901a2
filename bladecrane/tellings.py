"""What the calls of points 4 and 5 answer: they only tell, and change nothing.

Each takes the works and the list of numbers that stand behind the call's own.
"""

from bladecrane.limits import LAST_MINUTE
from bladecrane.placing import first_lift, free_at_last, last_out
from bladecrane.refusals import NONE_SUCH, NOT_IN_USE, OUT_OF_RANGE
from bladecrane.works import all_jobs, is_mould

NOT_READY = 0
WAITS_FOR_CRANE = 1
BEING_LIFTED = 2
BEING_CLEANED = 3


def tell_over(works, given):
    return [last_out(works, all_jobs(works))]


def tell_crane(works, given):
    minute = given[0]
    for number, job in works.jobs.items():
        if job.lifted <= minute < job.out:
            return [number]
    return [NOT_IN_USE]


# To be asked only for a minute in which the job uses its mould.
def part_of_job(job, minute):
    if minute < job.ready:
        return NOT_READY
    if minute < job.lifted:
        return WAITS_FOR_CRANE
    if minute < job.out:
        return BEING_LIFTED
    return BEING_CLEANED


def tell_inside(works, given):
    mould = given[0]
    minute = given[1]
    if not is_mould(works, mould):
        return [NONE_SUCH]
    for number, job in works.jobs.items():
        if job.mould == mould and job.begin <= minute < job.free:
            return [number, part_of_job(job, minute)]
    return [NOT_IN_USE]


def tell_free_at(works, given):
    mould = given[0]
    if not is_mould(works, mould):
        return [NONE_SUCH]
    return [free_at_last(works, all_jobs(works), mould)]


def tell_lifts(works, given):
    minute = given[0]
    if not works.minute <= minute <= LAST_MINUTE:
        return [OUT_OF_RANGE]
    return [first_lift(works, all_jobs(works), minute)]


# No two jobs use one mould in the same minute, so each one's minutes can be added up.
def count_used(jobs, mould, begin, end):
    return sum([max(min(job.free, end) - max(job.begin, begin), 0) for job in jobs if job.mould == mould])


def tell_idle(works, given):
    mould = given[0]
    if not is_mould(works, mould):
        return [NONE_SUCH]
    jobs = all_jobs(works)
    end = last_out(works, jobs)
    return [end - works.minute - count_used(jobs, mould, works.minute, end)]


def tell_job(works, given):
    number = given[0]
    if number not in works.jobs:
        return [NONE_SUCH]
    job = works.jobs[number]
    return [job.mould, job.blade.kind, job.begin, job.ready, job.lifted]


def tell_waiting(works, given):
    return [len(works.waiting)] + sorted(works.waiting)


def tell_state(works, given):
    return [works.minute, len(works.moulds), len(works.waiting), len(works.jobs), works.done]


# In the order of the calls' numbers, from over on.
TELLINGS = (
    tell_over,
    tell_crane,
    tell_inside,
    tell_free_at,
    tell_lifts,
    tell_idle,
    tell_job,
    tell_waiting,
    tell_state,
)
