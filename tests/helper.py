"""How the tests tell calls and read answers, a slow, plain account of what the answers should be, and drawn calls."""

from fractions import Fraction
from itertools import product
from math import ceil

from shapewatch.monitor import answers

CALL_NUMBERS = {
    "create": 0,
    "set_reward": 1,
    "set_rewards": 2,
    "copy_rewards": 3,
    "shape_rewards": 4,
    "scale_rewards": 5,
    "set_transition": 6,
    "set_deterministic": 7,
    "are_equivalent": 8,
    "potentials": 9,
    "equivalence_factor": 10,
    "same_optimal_actions": 11,
    "optimal_values": 12,
    "optimal_policy": 13,
    "regrets": 14,
    "add_guarantee": 15,
    "remove_guarantee": 16,
    "get_guarantee": 17,
    "check_guarantee": 18,
    "least_regret_bound": 19,
    "run_episode": 20,
    "preview_episode": 21,
    "get_episode": 22,
    "total_returns": 23,
    "corrected_return": 24,
    "status": 25,
}

BIGGEST = 4294967295


def told(calls):
    """Calls such as ("scale_rewards", 0, 2) as the one list that is handed in."""
    numbers = []
    for name, *arguments in calls:
        row = []
        for argument in arguments:
            row.extend(argument if isinstance(argument, list) else [argument])
        numbers.extend([CALL_NUMBERS[name], len(row), *row, 0])
    return numbers


def read(numbers):
    """The list that is given back as one list for each call."""
    rows = []
    position = 0
    while position < len(numbers):
        end = position + 1 + numbers[position]
        rows.append(numbers[position + 1:end])
        position = end
    return rows


def ask(*calls):
    """The answer to each of the calls of one request."""
    assert len(calls) <= 60
    rows = read(answers(told(calls)))
    assert len(rows) == len(calls)
    return rows


def last(*calls):
    """The answer to the last of the calls of one request."""
    return ask(*calls)[-1]


def settings(*places):
    """Calls that set single rewards, each told as table, state, action, next state and value."""
    return tuple(("set_reward", table, state, action, target, [value]) for table, state, action, target, value in places)


# Behind these no guarantee stands in the way of what is set to see the state.
FREED = (("remove_guarantee", 0),) * 3


def rewards_of(table, state_count, action_count, setup):
    """All rewards of the table behind the setup, each read as the previous value when it is set."""
    places = product(range(state_count), range(action_count), range(state_count))
    reads = [("set_reward", table, *place, [0]) for place in places]
    return [row[1] for row in ask(*setup, *FREED, *reads)[-len(reads):]]


QUESTIONS = (
    ("are_equivalent",),
    ("potentials",),
    ("equivalence_factor",),
    ("same_optimal_actions",),
    ("optimal_values", 0),
    ("optimal_values", 1),
    ("optimal_policy", 0),
    ("optimal_policy", 1),
    ("regrets",),
    ("least_regret_bound",),
    ("total_returns",),
    ("status",),
) + tuple(("get_guarantee", place) for place in range(4)) + tuple(("get_episode", place) for place in range(13))


def everything(setup, state_count, action_count):
    """All that can be seen of the state behind the setup."""
    seen = [ask(*setup, *QUESTIONS)[len(setup):]]
    for table in range(2):
        seen.append(rewards_of(table, state_count, action_count, setup))
    for weights in weight_probes(state_count, action_count):
        seen.append(ask(*setup, *FREED, *weights)[-len(weights):])
    # What a potential in one state adds to the corrected returns tells the first states of the episodes.
    for state in range(state_count):
        potentials = [1 if state == other else 0 for other in range(state_count)]
        probe = (("copy_rewards", 1), ("shape_rewards", 1, potentials))
        seen.append(ask(*setup, *FREED, *probe, *[("corrected_return", place) for place in range(12)])[-12:])
    return seen


def weight_probes(state_count, action_count):
    """For each state and next state, calls whose answers tell the weights of every action there."""
    for state, action, target in product(range(state_count), range(action_count), range(state_count)):
        rewards = [-1000 if a != action else 0 for s in range(state_count) for a in range(action_count)
                   for q in range(state_count)]
        rewards[(state * action_count + action) * state_count + target] = 1
        yield [("set_rewards", 0, rewards), ("optimal_values", 0)]


def fractions_in(numbers):
    """Numerators and denominators, one behind another, as fractions."""
    return [Fraction(numbers[place], numbers[place + 1]) for place in range(0, len(numbers), 2)]


def listed(fractions):
    """Fractions as numerators and denominators, one behind another."""
    return [number for fraction in fractions for number in (fraction.numerator, fraction.denominator)]


class Account:
    """The document's terms by their own words: every policy is tried, and every fraction is a Fraction."""

    def __init__(self, state_count, action_count, discount_num, discount_den, tables, weights):
        self.states = range(state_count)
        self.actions = range(action_count)
        self.discount = Fraction(discount_num, discount_den)
        self.rewards = [self.by_place(table) for table in tables]
        self.chances = {
            (s, a, q): Fraction(weights[s * action_count + a][q], sum(weights[s * action_count + a]))
            for s, a, q in self.places()
        }
        self.found_values = {}

    def places(self):
        return list(product(self.states, self.actions, self.states))

    def by_place(self, table):
        return dict(zip(self.places(), table))

    def shaped(self, rewards, p):
        return {(s, a, q): rewards[s, a, q] + self.discount * p[q] - p[s] for s, a, q in self.places()}

    def potentials(self, source, result):
        """The potentials that turn one table into another, or None."""
        p = [-Fraction(result[s, 0, s] - source[s, 0, s]) / (1 - self.discount) for s in self.states]
        return p if self.shaped(source, p) == result else None

    def factor(self):
        nought = {place: 0 for place in self.places()}
        first, second = self.rewards
        if self.potentials(nought, first) and self.potentials(nought, second):
            return Fraction(1)
        candidates = set()
        # A shaping adds the same to the discounted sums of all endless ways from one state, so it keeps what two
        # such ways differ by, and the factor multiplies it.
        for s, a, q in self.places():
            for b in self.actions:
                one = [self.cycle(rewards, s, a, q, b) for rewards in self.rewards]
                if one[0] != 0:
                    candidates.add(one[1] / one[0])
        for c in candidates:
            if c > 0 and self.potentials({place: c * first[place] for place in first}, second):
                return c
        return None

    def cycle(self, rewards, s, a, q, b):
        """The discounted sum of going from s to q by a and back by b, again and again, less that of waiting in s."""
        round_trip = (rewards[s, a, q] + self.discount * rewards[q, b, s]) / (1 - self.discount ** 2)
        return round_trip - Fraction(rewards[s, 0, s]) / (1 - self.discount)

    def policy_values(self, rewards, policy):
        rows = []
        for s in self.states:
            a = policy[s]
            row = [(1 if s == q else 0) - self.discount * self.chances[s, a, q] for q in self.states]
            rows.append(row + [sum(self.chances[s, a, q] * rewards[s, a, q] for q in self.states)])
        return solve(rows)

    def optimal_values(self, table):
        if table not in self.found_values:
            policies = product(self.actions, repeat=len(self.states))
            values = [self.policy_values(self.rewards[table], policy) for policy in policies]
            self.found_values[table] = [max(row[s] for row in values) for s in self.states]
        return self.found_values[table]

    def optimal_actions(self, table):
        best = self.optimal_values(table)
        rewards = self.rewards[table]
        return [
            [a for a in self.actions if best[s] == sum(
                self.chances[s, a, q] * (rewards[s, a, q] + self.discount * best[q]) for q in self.states)]
            for s in self.states
        ]

    def optimal_policy(self, table):
        return [min(actions) for actions in self.optimal_actions(table)]

    def regrets(self):
        followed = self.policy_values(self.rewards[1], self.optimal_policy(0))
        return [best - value for best, value in zip(self.optimal_values(1), followed)]

    def holds(self, kind, value):
        if kind == 0:
            return self.potentials(*self.rewards) is not None
        if kind == 1:
            return self.optimal_actions(0) == self.optimal_actions(1)
        return not any(regret > value for regret in self.regrets())

    def next_state(self, s, a, r):
        """The smallest state up to which the chances are above r thousandths."""
        return min(q for q in self.states if sum(self.chances[s, a, k] for k in range(q + 1)) > Fraction(r, 1000))

    def episode(self, table, first, randoms):
        """The steps, each an action and the next state, and the returns by both tables."""
        policy = self.optimal_policy(table)
        steps, returns, s = [], [Fraction(0), Fraction(0)], first
        for k, r in enumerate(randoms):
            a = policy[s]
            q = self.next_state(s, a, r)
            returns = [sofar + self.discount ** k * rewards[s, a, q] for sofar, rewards in zip(returns, self.rewards)]
            steps.append((a, q))
            s = q
        return steps, returns


class Refused(Exception):
    """The call is answered by this code."""


def refuse_if(wrong, code):
    if wrong:
        raise Refused(code)


class Model:
    """All calls by the document's own words, with everything made anew from plain tables each time."""

    def __init__(self):
        self.sizes = None

    def answer(self, name, *arguments):
        kept = dict(self.__dict__)
        try:
            refuse_if(name != "create" and self.sizes is None, -11)
            given = getattr(self, name)(*arguments)
            for guarantee in self.guarantees if 1 <= CALL_NUMBERS[name] <= 7 else ():
                refuse_if(not self.account().holds(*guarantee), -30)
            return given
        except Refused as refused:
            self.__dict__ = kept
            return [refused.args[0]]

    def account(self):
        return Account(*self.sizes, self.tables, self.weights)

    def refuse_missing(self, table=0, states=(), action=0):
        refuse_if(table > 1 or max(states, default=0) >= self.sizes[0] or action >= self.sizes[1], -2)

    def refuse_numbers(self, numbers, count, limit):
        refuse_if(len(numbers) != count or any(abs(number) > limit for number in numbers), -22)

    def with_table(self, table, rewards):
        refuse_if(any(abs(reward) > 100000 for reward in rewards), -75)
        self.tables = [rewards if table == other else self.tables[other] for other in (0, 1)]
        return [0]

    def places(self):
        return list(product(range(self.sizes[0]), range(self.sizes[1]), range(self.sizes[0])))

    def create(self, states, actions, num, den):
        refuse_if(not (2 <= states <= 4 and 1 <= actions <= 3 and 1 <= num < den <= 10), -22)
        self.sizes = (states, actions, num, den)
        self.tables = [[0] * len(self.places())] * 2
        self.weights = [[int(s == q) for q in range(states)] for s in range(states) for _ in range(actions)]
        self.guarantees = []
        self.episodes = []
        return [len(self.places())]

    def set_reward(self, table, state, action, target, value):
        self.refuse_missing(table, (state, target), action)
        self.refuse_numbers(value, 1, 1000)
        place = self.places().index((state, action, target))
        old = self.tables[table]
        self.with_table(table, old[:place] + value + old[place + 1:])
        return [0, old[place]]

    def set_rewards(self, table, values):
        self.refuse_missing(table)
        self.refuse_numbers(values, len(self.places()), 1000)
        return self.with_table(table, values)

    def copy_rewards(self, table):
        self.refuse_missing(table)
        return self.with_table(table, self.tables[1 - table])

    def shape_rewards(self, table, p):
        self.refuse_missing(table)
        self.refuse_numbers(p, self.sizes[0], 1000)
        num, den = self.sizes[2:]
        rewards = zip(self.tables[table], self.places())
        return self.with_table(table, [reward + num * p[q] - den * p[s] for reward, (s, _, q) in rewards])

    def scale_rewards(self, table, factor):
        self.refuse_missing(table)
        refuse_if(not 1 <= factor <= 100, -22)
        return self.with_table(table, [reward * factor for reward in self.tables[table]])

    def set_transition(self, state, action, weights):
        self.refuse_missing(0, (state,), action)
        self.refuse_numbers(weights, self.sizes[0], 9)
        refuse_if(not any(weights), -22)
        self.weights = list(self.weights)
        self.weights[state * self.sizes[1] + action] = weights
        return [sum(weights)]

    def set_deterministic(self, targets):
        self.refuse_numbers(targets, self.sizes[0] * self.sizes[1], self.sizes[0] - 1)
        self.weights = [[int(q == target) for q in range(self.sizes[0])] for target in targets]
        return [0]

    def are_equivalent(self):
        return [int(self.account().holds(0, 0))]

    def found_potentials(self):
        account = self.account()
        p = account.potentials(*account.rewards)
        refuse_if(p is None, -33)
        return p

    def potentials(self):
        return [self.sizes[0]] + listed(self.found_potentials())

    def equivalence_factor(self):
        factor = self.account().factor()
        refuse_if(factor is None, -33)
        return [0] + listed([factor])

    def same_optimal_actions(self):
        return [int(self.account().holds(1, 0))]

    def optimal_values(self, table):
        self.refuse_missing(table)
        return [self.sizes[0]] + listed(self.account().optimal_values(table))

    def optimal_policy(self, table):
        self.refuse_missing(table)
        return [self.sizes[0]] + self.account().optimal_policy(table)

    def regrets(self):
        return [self.sizes[0]] + listed(self.account().regrets())

    def refuse_guarantee(self, kind, value):
        refuse_if(kind > 2 or value > 100000 or (kind < 2 and value != 0), -22)

    def add_guarantee(self, kind, value):
        self.refuse_guarantee(kind, value)
        refuse_if((kind, value) in self.guarantees, -17)
        refuse_if(not self.account().holds(kind, value), -30)
        refuse_if(len(self.guarantees) == 3, -28)
        self.guarantees = self.guarantees + [(kind, value)]
        return [len(self.guarantees) - 1]

    def remove_guarantee(self, place):
        refuse_if(place >= len(self.guarantees), -2)
        self.guarantees = self.guarantees[:place] + self.guarantees[place + 1:]
        return [len(self.guarantees)]

    def get_guarantee(self, place):
        refuse_if(place >= len(self.guarantees), -2)
        return list(self.guarantees[place])

    def check_guarantee(self, kind, value):
        self.refuse_guarantee(kind, value)
        return [int(self.account().holds(kind, value))]

    def least_regret_bound(self):
        return [max(ceil(regret) for regret in self.account().regrets())]

    def followed(self, table, state, randoms):
        self.refuse_missing(table, (state,))
        refuse_if(len(randoms) > 6 or any(r > 999 for r in randoms), -22)
        return (state, *self.account().episode(table, state, randoms))

    def told(self, episode):
        first, steps, returns = episode
        return [len(steps)] + listed(returns) + [number for step in steps for number in step]

    def preview_episode(self, table, state, randoms):
        return self.told(self.followed(table, state, randoms))

    def run_episode(self, table, state, randoms):
        episode = self.followed(table, state, randoms)
        refuse_if(len(self.episodes) == 12, -28)
        self.episodes = self.episodes + [episode]
        return self.told(episode)

    def get_episode(self, place):
        refuse_if(place >= len(self.episodes), -2)
        return self.told(self.episodes[place])

    def total_returns(self):
        totals = [sum((returns[table] for _, _, returns in self.episodes), Fraction(0)) for table in (0, 1)]
        return [len(self.episodes)] + listed(totals)

    def corrected_return(self, place):
        refuse_if(place >= len(self.episodes), -2)
        p = self.found_potentials()
        first, steps, returns = self.episodes[place]
        end = steps[-1][1] if steps else first
        return [0] + listed([returns[1] + p[first] - Fraction(*self.sizes[2:]) ** len(steps) * p[end]])

    def status(self):
        return [4, self.sizes[0], self.sizes[1], len(self.guarantees), len(self.episodes)]


class Numbers:
    """A row of numbers that is the same each time."""

    def __init__(self, seed):
        self.state = seed * 2 + 1

    def below(self, limit):
        self.state = (self.state * 6364136223846793005 + 1442695040888963407) % 2 ** 64
        return (self.state >> 33) % limit

    def between(self, lowest, highest):
        return lowest + self.below(highest - lowest + 1)

    def several(self, count, lowest, highest):
        return [self.between(lowest, highest) for _ in range(count)]

    def one_of(self, choices):
        return choices[self.below(len(choices))]


class Drawn:
    """A drawn list of calls on one monitor, some of them wrong."""

    CHANGES = (
        "set_reward", "set_reward", "set_rewards", "copy_rewards", "shape_rewards", "scale_rewards", "set_transition",
        "set_transition", "set_deterministic",
    )
    OTHERS = ("create",) + tuple(name for name in CALL_NUMBERS if CALL_NUMBERS[name] > 7)
    GUARANTEES = ((0, 0), (1, 0), (2, 0), (2, 1), (2, 7), (2, 100), (2, 100000), (0, 1), (1, 9), (2, 100001), (3, 0))

    def __init__(self, seed, most_states=3):
        self.numbers = Numbers(seed)
        self.most_states = most_states
        self.spread = self.numbers.one_of((1, 2, 30, 1000))
        self.sizes = self.of_create(False)

    def equivalent(self):
        """A create and calls behind which the tables are equivalent and the transitions are drawn ones."""
        table = self.numbers.below(2)
        shapes = [("shape_rewards", side, self.rewards(self.sizes[0], 0)) for side in (0, 1)]
        rewards = ("set_rewards", table, self.rewards(self.sizes[0] ** 2 * self.sizes[1], 0))
        return [("create", *self.sizes), rewards, ("copy_rewards", 1 - table), *shapes, *self.transitions()]

    def apart(self):
        """A create and calls behind which both tables and the transitions are drawn ones."""
        rewards = [("set_rewards", side, self.rewards(self.sizes[0] ** 2 * self.sizes[1], 0)) for side in (0, 1)]
        return [("create", *self.sizes), *rewards, *self.transitions()]

    def transitions(self):
        names = ["set_deterministic"] + ["set_transition"] * (self.sizes[0] * self.sizes[1])
        return [self.call(name) for name in names[:1 + self.numbers.below(len(names))]]

    def calls(self, count):
        """A create and drawn calls up to the count: now much, now little holds between the tables."""
        drawn = self.numbers.one_of((self.equivalent, self.equivalent, self.apart))()
        while len(drawn) < count:
            name = self.numbers.one_of(self.numbers.one_of((self.CHANGES, self.OTHERS, ("run_episode", "add_guarantee"))))
            drawn.append(self.call(name, wrong=self.numbers.below(9) == 0))
        return drawn

    def call(self, name, wrong=False):
        return (name, *getattr(self, "of_" + name, self.of_none)(1 if wrong else 0))

    def number(self, limit, wrong):
        """A number below the limit, or perhaps not."""
        return self.numbers.one_of((limit, BIGGEST)) if wrong and self.numbers.below(4) == 0 else self.numbers.below(limit)

    def count(self, count, wrong):
        return max(0, count + self.numbers.between(-wrong, wrong))

    def of_create(self, wrong):
        den = self.numbers.between(2, 10)
        sizes = [self.numbers.between(2, self.most_states), self.numbers.between(1, 3), self.numbers.between(1, den - 1), den]
        if wrong:
            sizes[self.numbers.below(4)] = self.numbers.one_of((0, 11, BIGGEST))
        else:
            self.sizes = tuple(sizes)
        return tuple(sizes)

    def of_none(self, wrong):
        return ()

    def of_table(self, wrong):
        return (self.number(2, wrong),)

    of_copy_rewards = of_optimal_values = of_optimal_policy = of_table

    def of_set_reward(self, wrong):
        places = (self.number(self.sizes[0], wrong), self.number(self.sizes[1], wrong), self.number(self.sizes[0], wrong))
        return (self.number(2, wrong), *places, self.rewards(1, wrong))

    def rewards(self, count, wrong):
        spread = 1001 if wrong else self.spread
        return self.numbers.several(self.count(count, wrong), -spread, spread)

    def of_set_rewards(self, wrong):
        return (self.number(2, wrong), self.rewards(self.sizes[0] ** 2 * self.sizes[1], wrong))

    def of_shape_rewards(self, wrong):
        return (self.number(2, wrong), self.rewards(self.sizes[0], wrong))

    def of_scale_rewards(self, wrong):
        return (self.number(2, wrong), self.numbers.one_of((0, 101, 100, BIGGEST)) if wrong else self.numbers.between(1, 5))

    def of_set_transition(self, wrong):
        weights = self.numbers.several(self.count(self.sizes[0], wrong), 0, self.numbers.one_of((0, 1, 9, 9 + wrong)))
        if not wrong and not any(weights):
            weights[self.numbers.below(self.sizes[0])] = 1
        return (self.number(self.sizes[0], wrong), self.number(self.sizes[1], wrong), weights)

    def of_set_deterministic(self, wrong):
        count = self.count(self.sizes[0] * self.sizes[1], wrong)
        return ([self.number(self.sizes[0], wrong) for _ in range(count)],)

    def of_guarantee(self, wrong):
        return self.numbers.one_of(self.GUARANTEES[:7 + 4 * wrong])

    of_add_guarantee = of_check_guarantee = of_guarantee

    def of_place(self, wrong):
        return (self.number(3, wrong),)

    of_remove_guarantee = of_get_guarantee = of_get_episode = of_corrected_return = of_place

    def of_episode(self, wrong):
        randoms = [self.number(1000, wrong) for _ in range(self.numbers.below(7 + 2 * wrong))]
        return (self.number(2, wrong), self.number(self.sizes[0], wrong), randoms)

    of_run_episode = of_preview_episode = of_episode


def solve(rows):
    """Gauss and Jordan's way through a system of equations, with fractions."""
    rows = [[Fraction(number) for number in row] for row in rows]
    for column in range(len(rows)):
        pivot = next(k for k in range(column, len(rows)) if rows[k][column] != 0)
        rows[column], rows[pivot] = rows[pivot], rows[column]
        rows[column] = [number / rows[column][column] for number in rows[column]]
        for k in range(len(rows)):
            if k != column:
                factor = rows[k][column]
                rows[k] = [number - factor * other for number, other in zip(rows[k], rows[column])]
    return [row[-1] for row in rows]
