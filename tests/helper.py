"""What the tests share: how calls are written and answers read, and the document's words gone through one by one."""

from functools import lru_cache
from itertools import product

from twostores.shop import answers

HIGHEST = 4294967295


def begin(n, u, d, a, b):
    return [0, n, u, d, a, b]


def need(t, n):
    return [1, t, n]


def fees(u, d):
    return [2, u, d]


def keeping(a, b):
    return [3, a, b]


def alone(f, k):
    return [10, f, k]


def would(t, n):
    return [11, t, n]


def dear(u, d):
    return [12, u, d]


LEAST = [4]
PLAN = [5]
PARTS = [8]
GREEDY = [9]
BOTH = [13]
DAILY = [14]
ONCE = [15]
SUMS = [17]
STATE = [18]


def cost(plan):
    return [6, len(plan)] + list(plan)


def lies(plan):
    return [7, len(plan)] + list(plan)


def together(needs):
    return [16, len(needs)] + list(needs)


def ask(*calls):
    """The answers, one list for each call."""
    flat = [number for call in calls for number in call]
    told = answers(flat)
    split = []
    place = 0
    while place < len(told):
        size = told[place]
        split.append(told[place + 1:place + 1 + size])
        place += 1 + size
    assert place == len(told) and len(split) == len(calls), told
    return split


def ask_last(*calls):
    return ask(*calls)[-1]


def opening(needs, u, d, a, b):
    """The calls that begin a shop and tell its needs."""
    return [begin(len(needs), u, d, a, b)] + [need(t, n) for t, n in enumerate(needs)]


def ask_shop(needs, terms, *calls):
    """The answers of some calls on a shop with these needs and terms (u, d, a, b)."""
    first = opening(needs, *terms)
    return ask(*first, *calls)[len(first):]


# From here on: the document's words alone, and nothing of the program.

def behind(came, went):
    """What lies behind each day; a number below 0 where there is too little."""
    return [sum(came[:t + 1]) - sum(went[:t + 1]) for t in range(len(came))]


def slow_store(came, went, fee, keep):
    """What one store costs, or None where there is too little."""
    lying = behind(came, went)
    if min(lying) < 0:
        return None
    return sum(fee for n in came if n) + sum(keep * n for n in lying)


def slow_cost(ordered, brought, needs, terms):
    u, d, a, b = terms
    above = slow_store(ordered, brought, u, a)
    below = slow_store(brought, needs, d, b)
    return None if above is None or below is None else above + below


def slow_amounts(mask, needs):
    """A set of days is a number here, day t its bit t: so the sets' order is that of the numbers."""
    taken = [0] * len(needs)
    for t in range(len(needs)):
        if mask >> t & 1:
            end = t + 1
            while end < len(needs) and not mask >> end & 1:
                end += 1
            taken[t] = sum(needs[t:end])
    return taken


def slow_plan(needs, terms):
    """(least, ordered, brought), by going through all pairs of sets in their order."""
    told = None
    for days in range(1 << len(needs)):
        brought = slow_amounts(days, needs)
        for among in range(days + 1):
            if among & days != among:
                continue
            ordered = slow_amounts(among, brought)
            price = slow_cost(ordered, brought, needs, terms)
            if price is not None and (told is None or price < told[0]):
                told = (price, ordered, brought)
    return told


def slow_alone(needs, fee, keep):
    """(least, ordered) of one store alone, by going through all sets in their order."""
    told = None
    for days in range(1 << len(needs)):
        ordered = slow_amounts(days, needs)
        price = slow_store(ordered, needs, fee, keep)
        if price is not None and (told is None or price < told[0]):
            told = (price, ordered)
    return told


def slow_greedy(needs, terms):
    u, d, a, b = terms
    below, brought = slow_alone(needs, d, b)
    return below + slow_alone(brought, u, a)[0]


@lru_cache(maxsize=None)
def kept_plan(needs, terms):
    """As slow_plan, but kept: lines ask for the same one again and again."""
    return slow_plan(list(needs), terms)


class SlowShop:
    """An object that answers calls, written as the helper writes them, by the document's words."""

    def __init__(self):
        self.needs = None
        self.terms = None

    def answer(self, call):
        number, given = call[0], call[1:]
        if number == 0:
            return self.begin(*given)
        if self.needs is None:
            return [-11]
        if number in (1, 11) and given[0] >= len(self.needs):
            return [-2]
        if self.is_out_of_range(number, given):
            return [-22]
        if number <= 3:
            return self.change(number, given)
        if number in (6, 7):
            return self.of_plan(number, given[1:])
        return self.of_words(number, given)

    def begin(self, n, u, d, a, b):
        if not 1 <= n <= 7 or u > 10000 or d > 10000 or a > b or b > 100:
            return [-22]
        self.needs, self.terms = [0] * n, (u, d, a, b)
        return [0]

    def is_out_of_range(self, number, given):
        if number in (1, 11):
            return given[1] > 1000
        if number in (2, 12):
            return max(given) > 10000
        if number == 3:
            return given[0] > given[1] or given[1] > 100
        if number in (6, 7):
            return len(given) - 1 != 2 * len(self.needs) or max(given[1:]) > 100000
        if number == 10:
            return given[0] > 10000 or given[1] > 100
        if number == 16:
            return len(given) - 1 != len(self.needs) or max(given[1:]) > 1000
        return False

    def change(self, number, given):
        u, d, a, b = self.terms
        if number == 1:
            was, self.needs[given[0]] = self.needs[given[0]], given[1]
            return [was]
        if number == 2:
            self.terms = (given[0], given[1], a, b)
            return [u, d]
        self.terms = (u, d, given[0], given[1])
        return [a, b]

    def of_plan(self, number, plan):
        days = len(self.needs)
        ordered, brought = plan[:days], plan[days:]
        price = slow_cost(ordered, brought, self.needs, self.terms)
        if price is None:
            return [-12]
        if number == 6:
            return [price, price - self.least()]
        lying = behind(ordered, brought) + behind(brought, self.needs)
        return [sum(lying)] + lying

    def least(self, needs=None, terms=None):
        return kept_plan(tuple(needs or self.needs), terms or self.terms)[0]

    def of_words(self, number, given):
        needs, (u, d, a, b) = self.needs, self.terms
        if number == 4:
            return [self.least()]
        if number == 5:
            price, ordered, brought = kept_plan(tuple(needs), self.terms)
            return [price] + ordered + brought
        if number == 8:
            above, below = slow_alone(needs, u, a)[0], slow_alone(needs, d, b - a)[0]
            return [above + below, above, below]
        if number == 9:
            price = slow_greedy(needs, self.terms)
            return [price, price - self.least()]
        if number == 10:
            return [slow_alone(needs, *given)[0]]
        if number == 11:
            other = needs[:given[0]] + [given[1]] + needs[given[0] + 1:]
            return [self.least(other), self.least()]
        if number == 12:
            return [self.least(terms=(given[0], given[1], a, b)), self.least()]
        if number == 16:
            both = [needs[t] + given[1 + t] for t in range(len(needs))]
            return [self.least(both), self.least() + self.least(given[1:])]
        if number == 17:
            return [0, sum(needs), u, d, a, b]
        if number == 18:
            return [len(needs)] + needs
        all_first = [sum(needs)] + [0] * (len(needs) - 1)
        ordered = needs if number == 13 else all_first
        brought = all_first if number == 15 else needs
        return [slow_cost(ordered, brought, needs, self.terms)]


def every_plan(days, most):
    """All plans of so many days with numbers up to most, as the calls take them."""
    return product(range(most + 1), repeat=2 * days)


def drawer(seed):
    """What takes one of some choices, always the same ones for a seed."""
    state = seed

    def draw(choices):
        nonlocal state
        state = (state * 6364136223846793005 + 1442695040888963407) % (1 << 64)
        return choices[(state >> 33) % len(choices)]

    return draw


def mixed_shops(seed, count, most_days):
    """Needs and terms of all kinds; many with ties, zeros and bounds."""
    draw = drawer(seed)
    shops = []
    for _ in range(count):
        sizes = draw([(0, 1), (0, 1, 2, 3), (0, 0, 0, 4), (0, 5, 10, 20, 40), (0, 1, 999, 1000), (7,)])
        prices = draw([(0, 1, 2), (0, 3, 6, 12), (10, 40, 90, 160), (0, 10000), (5,)])
        rates = draw([(0,), (0, 1), (1, 2, 3), (0, 1, 5, 100), (2,)])
        needs = [draw(sizes) for _ in range(draw(range(1, most_days + 1)))]
        keep = sorted([draw(rates), draw(rates)])
        shops.append((needs, (draw(prices), draw(prices), keep[0], keep[1])))
    return shops
