"""The calls that ask about the reward tables and change nothing.

Each takes the process and the numbers of the call, and answers a list.
"""

from shapewatch.codes import MISSING, NOT_EQUIVALENT
from shapewatch.planning import optimal_marks, optimal_worth
from shapewatch.ratios import lowest_terms_each
from shapewatch.shaping import equivalent, factor_between, turning_potentials


def are_equivalent(process, numbers):
    return [1 if equivalent(process) else 0]


def potentials(process, numbers):
    if not equivalent(process):
        return [NOT_EQUIVALENT]
    return [process.state_count] + turning_potentials(process)


def equivalence_factor(process, numbers):
    factor = factor_between(process)
    if factor is None:
        return [NOT_EQUIVALENT]
    return [0] + factor


def same_optimal_actions(process, numbers):
    same = optimal_marks(process, process.tables[0]) == optimal_marks(process, process.tables[1])
    return [1 if same else 0]


def optimal_values(process, numbers):
    table = numbers[0]
    if not process.has_table(table):
        return [MISSING]
    worth = optimal_worth(process, process.tables[table])
    return [process.state_count] + lowest_terms_each(worth.shares, worth.divisor)


QUESTIONS = {
    8: are_equivalent,
    9: potentials,
    10: equivalence_factor,
    11: same_optimal_actions,
    12: optimal_values,
}


def answer_question(process, number, numbers):
    question = QUESTIONS[number]
    return question(process, numbers)
