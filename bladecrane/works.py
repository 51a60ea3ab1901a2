"""What there is on one object: moulds, blades that wait, jobs, and the minute."""


class Blade:
    def __init__(self, kind, minutes):
        self.kind = kind
        self.minutes = minutes


# The mould is used from minute `begin` up to, not with, minute `free`;
# the crane is used from minute `lifted` up to, not with, minute `out`.
class Job:
    def __init__(self, blade, mould, begin, lifted, out, free):
        self.blade = blade
        self.mould = mould
        self.begin = begin
        self.ready = begin + blade.minutes
        self.lifted = lifted
        self.out = out
        self.free = free


class Works:
    def __init__(self):
        self.started = False
        self.make_empty(0, 0)

    # A later start finds the same object, so emptying it is not left to __init__ alone.
    def make_empty(self, lift, clean):
        self.lift = lift
        self.clean = clean
        self.minute = 0
        self.moulds = []
        self.waiting = {}
        self.jobs = {}
        self.done = 0


def is_mould(works, number):
    return number < len(works.moulds)


def all_jobs(works):
    return list(works.jobs.values())


def least_free_number(taken):
    number = 0
    while number in taken:
        number += 1
    return number


def add_waiting(works, blade):
    number = least_free_number(works.waiting)
    works.waiting[number] = blade
    return number


# A blade is either waiting or a job, so it leaves the one when it comes to the other.
def make_job(works, waiting_number, job):
    works.waiting.pop(waiting_number)
    number = least_free_number(works.jobs)
    works.jobs[number] = job
    return number


def make_waiting(works, job_number):
    job = works.jobs.pop(job_number)
    return add_waiting(works, job.blade)
