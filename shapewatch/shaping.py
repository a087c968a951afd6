"""Shaping of reward tables by potentials, and what tables have in common up to it."""

from shapewatch.ratios import lowest_terms


# The potentials count discount_den times, so that the rewards stay whole.
def shaped(process, rewards, potentials):
    gain = process.discount_num
    cost = process.discount_den
    return [
        reward + gain * potentials[process.target_at(place)] - cost * potentials[process.state_at(place)]
        for place, reward in enumerate(rewards)
    ]


def loop_rewards(process, rewards):
    return [rewards[process.place(state, 0, state)] for state in range(process.state_count)]


# The one shaping by which all loop rewards become 0. As there is only one, two tables differ by shaping alone if and
# only if this is the same for both. It is multiplied by discount_den - discount_num, to keep it whole.
def settled(process, rewards):
    spread = process.discount_den - process.discount_num
    return shaped(process, [spread * reward for reward in rewards], loop_rewards(process, rewards))


def equivalent(process):
    return settled(process, process.tables[0]) == settled(process, process.tables[1])


# The potentials turn table 0 into table 1 only if the tables are equivalent.
def turning_potential(process, state):
    place = process.place(state, 0, state)
    difference = process.tables[0][place] - process.tables[1][place]
    return lowest_terms(process.discount_den * difference, process.discount_den - process.discount_num)


def factor_between(process):
    source = settled(process, process.tables[0])
    result = settled(process, process.tables[1])
    if source == result:
        return [1, 1]
    places = [place for place, reward in enumerate(source) if reward != 0]
    if len(places) == 0:
        return None
    numerator = result[places[0]]
    denominator = source[places[0]]
    if numerator * denominator <= 0:
        return None
    if [numerator * reward for reward in source] != [denominator * reward for reward in result]:
        return None
    return lowest_terms(numerator, denominator)
