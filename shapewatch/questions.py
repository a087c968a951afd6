"""The calls that ask about the process and its reward tables and change nothing.

Each takes the process and the numbers of the call, and answers a list.
"""

from shapewatch.codes import MISSING, NOT_EQUIVALENT
from shapewatch.planning import best_policy, lost_worth, optimal_actions_agree, optimal_worth, regret_bound
from shapewatch.ratios import lowest_terms_each
from shapewatch.shaping import equivalent, factor_between, turning_potential


def are_equivalent(process, numbers):
    return [1 if equivalent(process) else 0]


def potentials(process, numbers):
    if not equivalent(process):
        return [NOT_EQUIVALENT]
    told = [process.state_count]
    for state in range(process.state_count):
        told.extend(turning_potential(process, state))
    return told


def equivalence_factor(process, numbers):
    factor = factor_between(process)
    if factor is None:
        return [NOT_EQUIVALENT]
    return [0] + factor


def same_optimal_actions(process, numbers):
    return [1 if optimal_actions_agree(process) else 0]


def optimal_values(process, numbers):
    table = numbers[0]
    if not process.has_table(table):
        return [MISSING]
    worth = optimal_worth(process, process.tables[table])
    return [process.state_count] + lowest_terms_each(worth.shares, worth.divisor)


def optimal_policy(process, numbers):
    table = numbers[0]
    if not process.has_table(table):
        return [MISSING]
    return [process.state_count] + best_policy(process, process.tables[table])


def regrets(process, numbers):
    lost = lost_worth(process)
    return [process.state_count] + lowest_terms_each(lost.shares, lost.divisor)


def least_regret_bound(process, numbers):
    return [regret_bound(process)]


QUESTIONS = {
    8: are_equivalent,
    9: potentials,
    10: equivalence_factor,
    11: same_optimal_actions,
    12: optimal_values,
    13: optimal_policy,
    14: regrets,
    19: least_regret_bound,
}


def is_question(number):
    return number in QUESTIONS


def answer_question(process, number, numbers):
    question = QUESTIONS[number]
    return question(process, numbers)
