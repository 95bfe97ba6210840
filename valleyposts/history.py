"""The calls that take changes back, do them again, and tell how many there are.

Each is a function of the valley and the numbers given to it. It answers a list:
its number first, then what else is told; a refusal is one number below 0, alone.
"""

from valleyposts.refusals import NOT_THERE


def back(valley, given):
    if len(valley.earlier) == 0:
        return [NOT_THERE]
    valley.take_back()
    return [len(valley.earlier)]


def again(valley, given):
    if len(valley.undone) == 0:
        return [NOT_THERE]
    valley.do_again()
    return [len(valley.undone)]


def state(valley, given):
    return [valley.size(), len(valley.earlier), len(valley.undone)]


# Calls 23 to 25, in the order of their numbers: what answers each, and how many numbers are given to it.
HISTORY = ((back, 0), (again, 0), (state, 0))
