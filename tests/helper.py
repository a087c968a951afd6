"""How the tests tell calls and read answers, and a slow, plain account of what the answers should be."""

from fractions import Fraction
from itertools import product

from shapewatch.monitor import answers

CALL_NUMBERS = {
    "create": 0,
    "set_reward": 1,
    "set_rewards": 2,
    "copy_rewards": 3,
    "shape_rewards": 4,
    "scale_rewards": 5,
    "set_transition": 6,
    "set_deterministic": 7,
    "are_equivalent": 8,
    "potentials": 9,
    "equivalence_factor": 10,
    "same_optimal_actions": 11,
    "optimal_values": 12,
    "optimal_policy": 13,
    "regrets": 14,
    "add_guarantee": 15,
    "remove_guarantee": 16,
    "get_guarantee": 17,
    "check_guarantee": 18,
    "least_regret_bound": 19,
    "run_episode": 20,
    "preview_episode": 21,
    "get_episode": 22,
    "total_returns": 23,
    "corrected_return": 24,
    "status": 25,
}

BIGGEST = 4294967295


def told(calls):
    """Calls such as ("scale_rewards", 0, 2) as the one list that is handed in."""
    numbers = []
    for name, *arguments in calls:
        row = []
        for argument in arguments:
            row.extend(argument if isinstance(argument, list) else [argument])
        numbers.extend([CALL_NUMBERS[name], len(row), *row, 0])
    return numbers


def read(numbers):
    """The list that is given back as one list for each call."""
    rows = []
    position = 0
    while position < len(numbers):
        end = position + 1 + numbers[position]
        rows.append(numbers[position + 1:end])
        position = end
    return rows


def ask(*calls):
    """The answer to each of the calls of one request."""
    assert len(calls) <= 60
    rows = read(answers(told(calls)))
    assert len(rows) == len(calls)
    return rows


def last(*calls):
    """The answer to the last of the calls of one request."""
    return ask(*calls)[-1]


def rewards_of(table, state_count, action_count, setup):
    """All rewards of the table behind the setup, each read as the previous value when it is set."""
    places = product(range(state_count), range(action_count), range(state_count))
    reads = [("set_reward", table, *place, [0]) for place in places]
    return [row[1] for row in ask(*setup, *reads)[len(setup):]]


QUESTIONS = (
    ("are_equivalent",),
    ("potentials",),
    ("equivalence_factor",),
    ("same_optimal_actions",),
    ("optimal_values", 0),
    ("optimal_values", 1),
)


def everything(setup, state_count, action_count):
    """All that can be seen of the state behind the setup."""
    seen = [ask(*setup, *QUESTIONS)[len(setup):]]
    for table in range(2):
        seen.append(rewards_of(table, state_count, action_count, setup))
    for weights in weight_probes(state_count, action_count):
        seen.append(ask(*setup, *weights)[len(setup):])
    return seen


def weight_probes(state_count, action_count):
    """For each state and next state, calls whose answers tell the weights of every action there."""
    for state, action, target in product(range(state_count), range(action_count), range(state_count)):
        rewards = [-1000 if a != action else 0 for s in range(state_count) for a in range(action_count)
                   for q in range(state_count)]
        rewards[(state * action_count + action) * state_count + target] = 1
        yield [("set_rewards", 0, rewards), ("optimal_values", 0)]


def fractions_in(numbers):
    """Numerators and denominators, one behind another, as fractions."""
    return [Fraction(numbers[place], numbers[place + 1]) for place in range(0, len(numbers), 2)]


def listed(fractions):
    """Fractions as numerators and denominators, one behind another."""
    return [number for fraction in fractions for number in (fraction.numerator, fraction.denominator)]


class Account:
    """The document's terms by their own words: every policy is tried, and every fraction is a Fraction."""

    def __init__(self, state_count, action_count, discount_num, discount_den, tables, weights):
        self.states = range(state_count)
        self.actions = range(action_count)
        self.discount = Fraction(discount_num, discount_den)
        self.rewards = [self.by_place(table) for table in tables]
        self.chances = {
            (s, a, q): Fraction(weights[s * action_count + a][q], sum(weights[s * action_count + a]))
            for s, a, q in self.places()
        }

    def places(self):
        return list(product(self.states, self.actions, self.states))

    def by_place(self, table):
        return dict(zip(self.places(), table))

    def shaped(self, rewards, p):
        return {(s, a, q): rewards[s, a, q] + self.discount * p[q] - p[s] for s, a, q in self.places()}

    def potentials(self, source, result):
        """The potentials that turn one table into another, or None."""
        p = [-Fraction(result[s, 0, s] - source[s, 0, s]) / (1 - self.discount) for s in self.states]
        return p if self.shaped(source, p) == result else None

    def factor(self):
        nought = {place: 0 for place in self.places()}
        first, second = self.rewards
        if self.potentials(nought, first) and self.potentials(nought, second):
            return Fraction(1)
        candidates = set()
        # A shaping adds the same to the discounted sums of all endless ways from one state, so it keeps what two
        # such ways differ by, and the factor multiplies it.
        for s, a, q in self.places():
            for b in self.actions:
                one = [self.cycle(rewards, s, a, q, b) for rewards in self.rewards]
                if one[0] != 0:
                    candidates.add(one[1] / one[0])
        for c in candidates:
            if c > 0 and self.potentials({place: c * first[place] for place in first}, second):
                return c
        return None

    def cycle(self, rewards, s, a, q, b):
        """The discounted sum of going from s to q by a and back by b, again and again, less that of waiting in s."""
        round_trip = (rewards[s, a, q] + self.discount * rewards[q, b, s]) / (1 - self.discount ** 2)
        return round_trip - Fraction(rewards[s, 0, s]) / (1 - self.discount)

    def policy_values(self, rewards, policy):
        rows = []
        for s in self.states:
            a = policy[s]
            row = [(1 if s == q else 0) - self.discount * self.chances[s, a, q] for q in self.states]
            rows.append(row + [sum(self.chances[s, a, q] * rewards[s, a, q] for q in self.states)])
        return solve(rows)

    def optimal_values(self, table):
        policies = product(self.actions, repeat=len(self.states))
        values = [self.policy_values(self.rewards[table], policy) for policy in policies]
        return [max(row[s] for row in values) for s in self.states]

    def optimal_actions(self, table):
        best = self.optimal_values(table)
        rewards = self.rewards[table]
        return [
            [a for a in self.actions if best[s] == sum(
                self.chances[s, a, q] * (rewards[s, a, q] + self.discount * best[q]) for q in self.states)]
            for s in self.states
        ]


def solve(rows):
    """Gauss and Jordan's way through a system of equations, with fractions."""
    rows = [[Fraction(number) for number in row] for row in rows]
    for column in range(len(rows)):
        pivot = next(k for k in range(column, len(rows)) if rows[k][column] != 0)
        rows[column], rows[pivot] = rows[pivot], rows[column]
        rows[column] = [number / rows[column][column] for number in rows[column]]
        for k in range(len(rows)):
            if k != column:
                factor = rows[k][column]
                rows[k] = [number - factor * other for number, other in zip(rows[k], rows[column])]
    return [row[-1] for row in rows]
