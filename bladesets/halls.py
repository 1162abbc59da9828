"""The way in: a list of calls is read, and a list of answers given back."""

from bladesets.replies import COUNTS, reply_to
from bladesets.works import Works


def answers(calls):
    """For each call on new works, in order: how many numbers it answers, then these."""
    works = Works()
    given = []
    at = 0
    while at < len(calls):
        behind = at + 1 + COUNTS[calls[at]]
        reply = reply_to(works, calls[at], calls[at + 1:behind])
        given.append(len(reply))
        given.extend(reply)
        at = behind
    return given
