"""Where and when a blade would lie in a mould and be lifted, beside given jobs.

The jobs are handed in as a list, so that jobs that are only thought of can be among them.
"""

from bladecrane.works import Job


# One walk is enough: no lift of a job meets another, so once one begins
# behind the wanted lift's end, all that follow do too.
def first_lift(works, jobs, minute):
    first = minute
    for taken in sorted([job.lifted for job in jobs]):
        if taken >= first + works.lift:
            break
        if taken + works.lift > first:
            first = taken + works.lift
    return first


def free_at_last(works, jobs, mould):
    return max([job.free for job in jobs if job.mould == mould] + [works.minute])


def job_from(works, jobs, blade, mould, begin):
    lifted = first_lift(works, jobs, begin + blade.minutes)
    out = lifted + works.lift
    return Job(blade, mould, begin, lifted, out, out + works.clean)


def mould_is_used(jobs, wanted):
    for job in jobs:
        if job.mould == wanted.mould and job.begin < wanted.free and wanted.begin < job.free:
            return True
    return False


def has_mould(works, blade):
    return blade.kind in works.moulds


# All lifts take equally long, so what is lifted first is out first.
# To be asked only when there is a mould of the blade's kind.
def best_job(works, jobs, blade):
    best = None
    for mould, kind in enumerate(works.moulds):
        if kind == blade.kind:
            job = job_from(works, jobs, blade, mould, free_at_last(works, jobs, mould))
            if best is None or job.lifted < best.lifted:
                best = job
    return best


def last_out(works, jobs):
    return max([job.out for job in jobs] + [works.minute])
