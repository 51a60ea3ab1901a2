"""The interface: a list of calls on one new object in, the list of their answers out."""

from bladecrane.replies import count_given, reply_to
from bladecrane.works import Works


def answers(calls):
    works = Works()
    told = []
    place = 0
    while place < len(calls):
        behind = place + 1 + count_given(calls, place)
        numbers = reply_to(works, calls[place], calls[place + 1:behind])
        told.append(len(numbers))
        told.extend(numbers)
        place = behind
    return told
