"""Values of policies, optimal values, actions and policies, and what following the other table costs.

The values of all states are a Solution: whole shares over one positive divisor.
"""

from shapewatch.linear import Solution, solved


# What the values of all states fulfil if the action is taken in the state: their coefficients, then the right side.
# It is multiplied by discount_den and by the sum of the weights, to keep it whole.
def equation(process, rewards, state, action):
    pair = process.pair(state, action)
    first = pair * process.state_count
    weights = process.weights[pair]
    paid = rewards[first:first + process.state_count]
    row = [-process.discount_num * weight for weight in weights]
    row[state] += process.discount_den * sum(weights)
    row.append(process.discount_den * sum([weight * reward for weight, reward in zip(weights, paid)]))
    return row


def policy_worth(process, rewards, policy):
    return solved([equation(process, rewards, state, action) for state, action in enumerate(policy)])


# Only the sign is the answer (above 0 if the action is worth more than the state): the amount is a multiple of it,
# as the equation is.
def advantage(process, rewards, state, action, worth):
    row = equation(process, rewards, state, action)
    held = sum([coefficient * share for coefficient, share in zip(row, worth.shares)])
    return row[-1] * worth.divisor - held


# The action stays unless another is truly worth more: with a change for an equal one, `optimal_worth` might not end.
def better_action(process, rewards, state, action, worth):
    for other in range(process.action_count):
        if advantage(process, rewards, state, other, worth) > 0:
            return other
    return action


def improved(process, rewards, policy, worth):
    return [better_action(process, rewards, state, action, worth) for state, action in enumerate(policy)]


def optimal_worth(process, rewards):
    policy = [0] * process.state_count
    worth = policy_worth(process, rewards, policy)
    better = improved(process, rewards, policy, worth)
    # Every change raises a value and lowers none, so no policy comes twice and the loop ends.
    while better != policy:
        policy = better
        worth = policy_worth(process, rewards, policy)
        better = improved(process, rewards, policy, worth)
    return worth


def actions_worth_most(process, rewards, state, worth):
    return [
        action for action in range(process.action_count)
        if advantage(process, rewards, state, action, worth) == 0
    ]


def optimal_actions(process, rewards):
    worth = optimal_worth(process, rewards)
    return [actions_worth_most(process, rewards, state, worth) for state in range(process.state_count)]


def optimal_actions_agree(process):
    return optimal_actions(process, process.tables[0]) == optimal_actions(process, process.tables[1])


def best_policy(process, rewards):
    return [actions[0] for actions in optimal_actions(process, rewards)]


def lost_worth(process):
    rewards = process.tables[1]
    best = optimal_worth(process, rewards)
    reached = policy_worth(process, rewards, best_policy(process, process.tables[0]))
    shares = [most * reached.divisor - share * best.divisor for most, share in zip(best.shares, reached.shares)]
    return Solution(shares, best.divisor * reached.divisor)


def regret_bound(process):
    lost = lost_worth(process)
    # The two signs make the division round up.
    return -(-max(lost.shares) // lost.divisor)
