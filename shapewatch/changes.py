"""The calls that change rewards or transitions.

Each takes the process and the numbers of the call, and answers a list. It checks everything before it
changes anything, so that a refused call leaves the process as it was.
"""

from shapewatch.codes import MISSING, OUT_OF_LIMITS, TOO_LARGE
from shapewatch.process import sure_weights
from shapewatch.shaping import shaped

GIVEN_LIMIT = 1000
REACHED_LIMIT = 100000
FACTOR_LIMIT = 100
WEIGHT_LIMIT = 9


def within(numbers, limit):
    return all([-limit <= number <= limit for number in numbers])


def set_reward(process, numbers):
    table = numbers[0]
    state = numbers[1]
    action = numbers[2]
    target = numbers[3]
    value = numbers[4:]
    if not process.has_table(table) or not process.has_state(state) or not process.has_action(action):
        return [MISSING]
    if not process.has_state(target):
        return [MISSING]
    if len(value) != 1 or not within(value, GIVEN_LIMIT):
        return [OUT_OF_LIMITS]
    place = process.place(state, action, target)
    rewards = list(process.tables[table])
    old_value = rewards[place]
    rewards[place] = value[0]
    process.tables[table] = rewards
    return [0, old_value]


def set_rewards(process, numbers):
    table = numbers[0]
    rewards = numbers[1:]
    if not process.has_table(table):
        return [MISSING]
    if len(rewards) != process.reward_count() or not within(rewards, GIVEN_LIMIT):
        return [OUT_OF_LIMITS]
    process.tables[table] = rewards
    return [0]


def copy_rewards(process, numbers):
    table = numbers[0]
    if not process.has_table(table):
        return [MISSING]
    process.tables[table] = list(process.tables[1 - table])
    return [0]


def put_if_small_enough(process, table, rewards):
    if not within(rewards, REACHED_LIMIT):
        return [TOO_LARGE]
    process.tables[table] = rewards
    return [0]


def shape_rewards(process, numbers):
    table = numbers[0]
    potentials = numbers[1:]
    if not process.has_table(table):
        return [MISSING]
    if len(potentials) != process.state_count or not within(potentials, GIVEN_LIMIT):
        return [OUT_OF_LIMITS]
    return put_if_small_enough(process, table, shaped(process, process.tables[table], potentials))


def scale_rewards(process, numbers):
    table = numbers[0]
    factor = numbers[1]
    if not process.has_table(table):
        return [MISSING]
    if not 1 <= factor <= FACTOR_LIMIT:
        return [OUT_OF_LIMITS]
    return put_if_small_enough(process, table, [factor * reward for reward in process.tables[table]])


def set_transition(process, numbers):
    state = numbers[0]
    action = numbers[1]
    weights = numbers[2:]
    if not process.has_state(state) or not process.has_action(action):
        return [MISSING]
    if len(weights) != process.state_count or max(weights) > WEIGHT_LIMIT or sum(weights) == 0:
        return [OUT_OF_LIMITS]
    changed = list(process.weights)
    changed[process.pair(state, action)] = weights
    process.weights = changed
    return [sum(weights)]


def set_deterministic(process, numbers):
    if len(numbers) != process.pair_count() or not all([process.has_state(target) for target in numbers]):
        return [OUT_OF_LIMITS]
    process.weights = [sure_weights(process.state_count, target) for target in numbers]
    return [0]


CHANGES = {
    1: set_reward,
    2: set_rewards,
    3: copy_rewards,
    4: shape_rewards,
    5: scale_rewards,
    6: set_transition,
    7: set_deterministic,
}


def is_change(number):
    return number in CHANGES


def answer_change(process, number, numbers):
    change = CHANGES[number]
    return change(process, numbers)
