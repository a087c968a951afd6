"""The decision process that a monitor keeps, with both of its reward tables."""

TABLE_COUNT = 2


def sure_weights(state_count, target):
    return [1 if state == target else 0 for state in range(state_count)]


# A table is one list, ordered by state, then action, then next state; the weights are one list for every pair of
# a state and an action. These lists are replaced as a whole and never changed in place, so a copy may share them.
class Process:
    def __init__(self, state_count, action_count, discount_num, discount_den):
        self.state_count = state_count
        self.action_count = action_count
        self.discount_num = discount_num
        self.discount_den = discount_den
        self.tables = [[0] * self.reward_count(), [0] * self.reward_count()]
        self.weights = [sure_weights(state_count, pair // action_count) for pair in range(self.pair_count())]

    def copied(self):
        other = Process(self.state_count, self.action_count, self.discount_num, self.discount_den)
        other.tables = list(self.tables)
        other.weights = self.weights
        return other

    def discount(self):
        return [self.discount_num, self.discount_den]

    def pair_count(self):
        return self.state_count * self.action_count

    def reward_count(self):
        return self.pair_count() * self.state_count

    def has_table(self, table):
        return 0 <= table < TABLE_COUNT

    def has_state(self, state):
        return 0 <= state < self.state_count

    def has_action(self, action):
        return 0 <= action < self.action_count

    def pair(self, state, action):
        return state * self.action_count + action

    def place(self, state, action, target):
        return self.pair(state, action) * self.state_count + target

    def state_at(self, place):
        return place // self.state_count // self.action_count

    def target_at(self, place):
        return place % self.state_count
