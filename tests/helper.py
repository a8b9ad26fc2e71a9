"""What the tests share: how calls are written and answers read, and the document's words gone through one by one."""

from itertools import product

from twostores.shop import answers

HIGHEST = 4294967295


def begin(n, u, d, a, b):
    return [0, n, u, d, a, b]


def need(t, n):
    return [1, t, n]


def fees(u, d):
    return [2, u, d]


def keeping(a, b):
    return [3, a, b]


LEAST = [4]
PLAN = [5]
PARTS = [8]
GREEDY = [9]


def cost(plan):
    return [6, len(plan)] + list(plan)


def lies(plan):
    return [7, len(plan)] + list(plan)


def ask(*calls):
    """The answers, one list for each call."""
    flat = [number for call in calls for number in call]
    told = answers(flat)
    split = []
    place = 0
    while place < len(told):
        size = told[place]
        split.append(told[place + 1:place + 1 + size])
        place += 1 + size
    assert place == len(told) and len(split) == len(calls), told
    return split


def ask_last(*calls):
    return ask(*calls)[-1]


def opening(needs, u, d, a, b):
    """The calls that begin a shop and tell its needs."""
    return [begin(len(needs), u, d, a, b)] + [need(t, n) for t, n in enumerate(needs)]


def ask_shop(needs, terms, *calls):
    """The answers of some calls on a shop with these needs and terms (u, d, a, b)."""
    first = opening(needs, *terms)
    return ask(*first, *calls)[len(first):]


# From here on: the document's words alone, and nothing of the program.

def behind(came, went):
    """What lies behind each day; a number below 0 where there is too little."""
    return [sum(came[:t + 1]) - sum(went[:t + 1]) for t in range(len(came))]


def slow_store(came, went, fee, keep):
    """What one store costs, or None where there is too little."""
    lying = behind(came, went)
    if min(lying) < 0:
        return None
    return sum(fee for n in came if n) + sum(keep * n for n in lying)


def slow_cost(ordered, brought, needs, terms):
    u, d, a, b = terms
    above = slow_store(ordered, brought, u, a)
    below = slow_store(brought, needs, d, b)
    return None if above is None or below is None else above + below


def slow_amounts(mask, needs):
    """A set of days is a number here, day t its bit t: so the sets' order is that of the numbers."""
    taken = [0] * len(needs)
    for t in range(len(needs)):
        if mask >> t & 1:
            end = t + 1
            while end < len(needs) and not mask >> end & 1:
                end += 1
            taken[t] = sum(needs[t:end])
    return taken


def slow_plan(needs, terms):
    """(least, ordered, brought), by going through all pairs of sets in their order."""
    told = None
    for days in range(1 << len(needs)):
        brought = slow_amounts(days, needs)
        for among in range(days + 1):
            if among & days != among:
                continue
            ordered = slow_amounts(among, brought)
            price = slow_cost(ordered, brought, needs, terms)
            if price is not None and (told is None or price < told[0]):
                told = (price, ordered, brought)
    return told


def slow_alone(needs, fee, keep):
    """(least, ordered) of one store alone, by going through all sets in their order."""
    told = None
    for days in range(1 << len(needs)):
        ordered = slow_amounts(days, needs)
        price = slow_store(ordered, needs, fee, keep)
        if price is not None and (told is None or price < told[0]):
            told = (price, ordered)
    return told


def slow_greedy(needs, terms):
    u, d, a, b = terms
    below, brought = slow_alone(needs, d, b)
    return below + slow_alone(brought, u, a)[0]


def every_plan(days, most):
    """All plans of so many days with numbers up to most, as the calls take them."""
    return product(range(most + 1), repeat=2 * days)


def mixed_shops(seed, count, most_days):
    """Needs and terms of all kinds, always the same ones for a seed; many with ties, zeros and bounds."""
    state = seed
    shops = []

    def draw(choices):
        nonlocal state
        state = (state * 6364136223846793005 + 1442695040888963407) % (1 << 64)
        return choices[(state >> 33) % len(choices)]

    for _ in range(count):
        sizes = draw([(0, 1), (0, 1, 2, 3), (0, 0, 0, 4), (0, 5, 10, 20, 40), (0, 1, 999, 1000), (7,)])
        prices = draw([(0, 1, 2), (0, 3, 6, 12), (10, 40, 90, 160), (0, 10000), (5,)])
        rates = draw([(0,), (0, 1), (1, 2, 3), (0, 1, 5, 100), (2,)])
        needs = [draw(sizes) for _ in range(draw(range(1, most_days + 1)))]
        keep = sorted([draw(rates), draw(rates)])
        shops.append((needs, (draw(prices), draw(prices), keep[0], keep[1])))
    return shops
