"""The guarantees, and the calls on them.

A guarantee is a kind and a value. Each call takes the process, the list of guarantees and the numbers of the call,
and answers a list.
"""

from shapewatch.codes import FULL, MISSING, OUT_OF_LIMITS, THERE_ALREADY, VIOLATED
from shapewatch.planning import optimal_actions_agree, regret_bound
from shapewatch.shaping import equivalent

EQUIVALENCE = 0
SAME_ACTIONS = 1
BOUNDED_REGRET = 2
VALUE_LIMIT = 100000
COUNT_LIMIT = 3


def allowed(kind, value):
    if kind == BOUNDED_REGRET:
        return 0 <= value <= VALUE_LIMIT
    return EQUIVALENCE <= kind <= SAME_ACTIONS and value == 0


def holds(process, kind, value):
    if kind == EQUIVALENCE:
        return equivalent(process)
    if kind == SAME_ACTIONS:
        return optimal_actions_agree(process)
    return regret_bound(process) <= value


def all_hold(process, guarantees):
    return all([holds(process, kind, value) for kind, value in guarantees])


def has_guarantee(guarantees, place):
    return 0 <= place < len(guarantees)


def add_guarantee(process, guarantees, numbers):
    kind = numbers[0]
    value = numbers[1]
    if not allowed(kind, value):
        return [OUT_OF_LIMITS]
    if (kind, value) in guarantees:
        return [THERE_ALREADY]
    if not holds(process, kind, value):
        return [VIOLATED]
    if len(guarantees) == COUNT_LIMIT:
        return [FULL]
    guarantees.append((kind, value))
    return [len(guarantees) - 1]


def remove_guarantee(process, guarantees, numbers):
    place = numbers[0]
    if not has_guarantee(guarantees, place):
        return [MISSING]
    guarantees.pop(place)
    return [len(guarantees)]


def get_guarantee(process, guarantees, numbers):
    place = numbers[0]
    if not has_guarantee(guarantees, place):
        return [MISSING]
    return list(guarantees[place])


def check_guarantee(process, guarantees, numbers):
    kind = numbers[0]
    value = numbers[1]
    if not allowed(kind, value):
        return [OUT_OF_LIMITS]
    return [1 if holds(process, kind, value) else 0]


GUARANTEE_CALLS = {
    15: add_guarantee,
    16: remove_guarantee,
    17: get_guarantee,
    18: check_guarantee,
}


def is_guarantee_call(number):
    return number in GUARANTEE_CALLS


def answer_guarantee_call(process, guarantees, number, numbers):
    call = GUARANTEE_CALLS[number]
    return call(process, guarantees, numbers)
