"""The six rules by which a group shares an amount, a fraction, among its members.

Claims and weights are lists of whole numbers in the members' order; shares are fractions in the same order.
The amount is never above the sum of the claims.
"""

from droughtshares.ratios import at_most, greater, lesser, minus, over, ratio, times, total, whole

RULE_NAMES = ("parts", "even", "losses", "halves", "chance", "order")
PARTS = 0
EVEN = 1
LOSSES = 2
HALVES = 3
CHANCE = 4
ORDER = 5

OF_SHARES = 0
OF_LACKS = 1


def by_parts(amount, claims):
    claimed = sum(claims)
    if claimed == 0:
        return [whole(0) for claim in claims]
    return [over(times(amount, claim), claimed) for claim in claims]


def is_filled(limit, weight, level):
    return at_most(limit, times(level, weight))


def filled_at(level, waiting):
    return [pair for pair in waiting if is_filled(pair[0], pair[1], level)]


def unfilled_at(level, waiting):
    return [pair for pair in waiting if not is_filled(pair[0], pair[1], level)]


def common_level(amount, waiting):
    return over(amount, sum([pair[1] for pair in waiting]))


def highest_ratio(waiting):
    highest = whole(0)
    for limit, weight in waiting:
        highest = greater(highest, over(limit, weight))
    return highest


def even_level(amount, limits, weights):
    """The level at which the members, each up to its limit (a fraction), get the amount together."""
    waiting = list(zip(limits, weights))
    level = common_level(amount, waiting)
    filled = filled_at(level, waiting)
    while 0 < len(filled) < len(waiting):
        amount = minus(amount, total([pair[0] for pair in filled]))
        waiting = unfilled_at(level, waiting)
        level = common_level(amount, waiting)
        filled = filled_at(level, waiting)
    if len(filled) == len(waiting):
        return highest_ratio(waiting)
    return level


def has_level(rule):
    return rule == EVEN or rule == LOSSES or rule == HALVES


def level_kind(rule, amount, claims):
    if rule == EVEN:
        return OF_SHARES
    if rule == HALVES and at_most(times(amount, 2), whole(sum(claims))):
        return OF_SHARES
    return OF_LACKS


def limits_by(rule, claims):
    if rule == HALVES:
        return [ratio(claim, 2) for claim in claims]
    return [whole(claim) for claim in claims]


def proof_by(rule, amount, claims, weights):
    """The kind of level and the level of one of the rules even, losses and halves."""
    kind = level_kind(rule, amount, claims)
    spread = amount
    if kind == OF_LACKS:
        spread = minus(whole(sum(claims)), amount)
    return (kind, even_level(spread, limits_by(rule, claims), weights))


def by_level(rule, amount, claims, weights):
    proof = proof_by(rule, amount, claims, weights)
    limits = limits_by(rule, claims)
    got = [lesser(limit, times(proof[1], weight)) for limit, weight in zip(limits, weights)]
    if proof[0] == OF_SHARES:
        return got
    return [minus(whole(claim), lack) for claim, lack in zip(claims, got)]


def factorial(number):
    product = 1
    for factor in range(2, number + 1):
        product = product * factor
    return product


def sets_of(claims):
    """Of each set of these claims: how many they are, and their sum."""
    sets = [(0, 0)]
    for claim in claims:
        sets = sets + [(size + 1, claimed + claim) for size, claimed in sets]
    return sets


def mean_taken(amount, claim, others):
    """What one takes in the mean over all orders.

    What it takes hangs only on who came before it, so each such set counts
    as often as there are orders with it, and 9 members need no 362880 orders.
    """
    upper = amount[0]
    lower = amount[1]
    count = len(others)
    orders = [factorial(size) * factorial(count - size) for size in range(count + 1)]
    summed = 0
    for size, claimed in sets_of(others):
        left = max(0, upper - claimed * lower)
        summed = summed + orders[size] * min(claim * lower, left)
    return ratio(summed, lower * factorial(count + 1))


def by_chance(amount, claims):
    shares = []
    for place, claim in enumerate(claims):
        others = claims[:place] + claims[place + 1:]
        shares.append(mean_taken(amount, claim, others))
    return shares


def by_order(amount, claims):
    shares = []
    left = amount
    for claim in claims:
        share = lesser(whole(claim), left)
        shares.append(share)
        left = minus(left, share)
    return shares


def shares_by(rule, amount, claims, weights):
    # Where a group's only member has left there is nobody to find a level for.
    if len(claims) == 0:
        return []
    if rule == PARTS:
        return by_parts(amount, claims)
    if rule == CHANCE:
        return by_chance(amount, claims)
    if rule == ORDER:
        return by_order(amount, claims)
    return by_level(rule, amount, claims, weights)
