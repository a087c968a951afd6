"""The episodes, and the calls on them.

Each call takes the process, the list of recorded episodes and the numbers of the call, and answers a list.
"""

from shapewatch.codes import FULL, MISSING, NOT_EQUIVALENT, OUT_OF_LIMITS
from shapewatch.planning import best_policy
from shapewatch.process import TABLE_COUNT
from shapewatch.ratios import added, multiplied
from shapewatch.shaping import equivalent, turning_potential

DRAW_LIMIT = 999
DRAW_PARTS = 1000
STEP_LIMIT = 6
COUNT_LIMIT = 12


# A step is an action and the next state. The returns are one fraction for each table, as the tables were at the time.
class Episode:
    def __init__(self, start, steps, returns):
        self.start = start
        self.steps = steps
        self.returns = returns

    def last_state(self):
        if len(self.steps) == 0:
            return self.start
        return self.steps[-1][1]


def drawn_state(weights, draw):
    needed = draw * sum(weights)
    state = 0
    reached = weights[0]
    while needed >= DRAW_PARTS * reached:
        state += 1
        reached += weights[state]
    return state


def followed_steps(process, policy, start, draws):
    state = start
    steps = []
    for draw in draws:
        action = policy[state]
        state = drawn_state(process.weights[process.pair(state, action)], draw)
        steps.append((action, state))
    return steps


def step_rewards(process, rewards, start, steps):
    state = start
    paid = []
    for action, target in steps:
        paid.append(rewards[process.place(state, action, target)])
        state = target
    return paid


def discounted_sum(discount, paid):
    total = [0, 1]
    # From the last reward to the first, as each step discounts all that is behind it.
    for reward in reversed(paid):
        total = added([reward, 1], multiplied(discount, total))
    return total


def followed_episode(process, table, start, draws):
    steps = followed_steps(process, best_policy(process, process.tables[table]), start, draws)
    discount = process.discount()
    returns = [discounted_sum(discount, step_rewards(process, rewards, start, steps)) for rewards in process.tables]
    return Episode(start, steps, returns)


def told_episode(episode):
    told = [len(episode.steps)] + episode.returns[0] + episode.returns[1]
    for action, target in episode.steps:
        told.append(action)
        told.append(target)
    return told


# The code that refuses to follow an episode, or None.
def refusal(process, numbers):
    draws = numbers[2:]
    if not process.has_table(numbers[0]) or not process.has_state(numbers[1]):
        return MISSING
    if len(draws) > STEP_LIMIT or not all([0 <= draw <= DRAW_LIMIT for draw in draws]):
        return OUT_OF_LIMITS
    return None


def run_episode(process, episodes, numbers):
    code = refusal(process, numbers)
    if code is not None:
        return [code]
    if len(episodes) == COUNT_LIMIT:
        return [FULL]
    episode = followed_episode(process, numbers[0], numbers[1], numbers[2:])
    episodes.append(episode)
    return told_episode(episode)


def preview_episode(process, episodes, numbers):
    code = refusal(process, numbers)
    if code is not None:
        return [code]
    return told_episode(followed_episode(process, numbers[0], numbers[1], numbers[2:]))


def has_episode(episodes, place):
    return 0 <= place < len(episodes)


def get_episode(process, episodes, numbers):
    place = numbers[0]
    if not has_episode(episodes, place):
        return [MISSING]
    return told_episode(episodes[place])


def total_return(episodes, table):
    total = [0, 1]
    for episode in episodes:
        total = added(total, episode.returns[table])
    return total


def total_returns(process, episodes, numbers):
    told = [len(episodes)]
    for table in range(TABLE_COUNT):
        told.extend(total_return(episodes, table))
    return told


def corrected(process, episode):
    gained = added(episode.returns[1], turning_potential(process, episode.start))
    lost = turning_potential(process, episode.last_state())
    for step in episode.steps:
        lost = multiplied(process.discount(), lost)
    return added(gained, [-lost[0], lost[1]])


def corrected_return(process, episodes, numbers):
    place = numbers[0]
    if not has_episode(episodes, place):
        return [MISSING]
    if not equivalent(process):
        return [NOT_EQUIVALENT]
    return [0] + corrected(process, episodes[place])


EPISODE_CALLS = {
    20: run_episode,
    21: preview_episode,
    22: get_episode,
    23: total_returns,
    24: corrected_return,
}


def is_episode_call(number):
    return number in EPISODE_CALLS


def answer_episode_call(process, episodes, number, numbers):
    call = EPISODE_CALLS[number]
    return call(process, episodes, numbers)
