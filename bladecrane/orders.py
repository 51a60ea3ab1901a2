"""Orders: blades that wait, put one behind another, each into its best mould."""

from bladecrane.placing import best_job, last_out
from bladecrane.works import all_jobs


# The number of jobs has no limit here: nothing is really put.
def end_of_order(works, order):
    jobs = all_jobs(works)
    for number in order:
        jobs.append(best_job(works, jobs, works.waiting[number]))
    return last_out(works, jobs)


def best_order(works):
    return better_order(works, all_jobs(works), [], sorted(works.waiting), None)


# Gives back (when the last one is out, the order): the best of all orders that
# begin with `placed`, or `found` if none of them is better.
# A further blade never brings the end forward, so what is no better than `found`
# now is left. Orders come rising, so of like ones the first is kept.
def better_order(works, jobs, placed, left, found):
    end = last_out(works, jobs)
    if found is not None and end >= found[0]:
        return found
    if not left:
        return (end, placed)
    for number in left:
        job = best_job(works, jobs, works.waiting[number])
        others = [other for other in left if other != number]
        found = better_order(works, jobs + [job], placed + [number], others, found)
    return found
