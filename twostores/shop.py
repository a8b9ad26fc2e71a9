"""The calls on a shop with a storehouse behind it, and their answers."""

from twostores.stores import alone_cost, amounts, greedy_cost, least_plan, left_behind, plan_cost

NONE_SUCH = -2
NOT_BEGUN = -11
TOO_LITTLE = -12
OUT_OF_RANGE = -22

MOST_DAYS = 7
MOST_NEEDED = 1000
MOST_FEE = 10000
MOST_KEEPING = 100
MOST_IN_PLAN = 100000


class Shop:
    """What is needed on each day (no days: not begun), and fees and keeping, the storehouse's ahead of the shop's."""

    def __init__(self):
        self.needs = []
        self.fee_pair = (0, 0)
        self.keep_pair = (0, 0)


def fees_fit(above, bringing):
    return above <= MOST_FEE and bringing <= MOST_FEE


def keeping_fits(above, below):
    return above <= below and below <= MOST_KEEPING


def told_plan(shop):
    return least_plan(shop.needs, shop.fee_pair, shop.keep_pair)


def least_now(shop):
    return told_plan(shop)[0]


def least_for(shop, needs):
    """The least with the shop's fees and keeping, for other needs."""
    return least_plan(needs, shop.fee_pair, shop.keep_pair)[0]


def cost_of(shop, ordered, brought):
    return plan_cost(ordered, brought, shop.needs, shop.fee_pair, shop.keep_pair)


def begin(shop, given):
    if given[0] < 1 or given[0] > MOST_DAYS:
        return [OUT_OF_RANGE]
    if not fees_fit(given[1], given[2]) or not keeping_fits(given[3], given[4]):
        return [OUT_OF_RANGE]
    shop.needs = [0] * given[0]
    shop.fee_pair = (given[1], given[2])
    shop.keep_pair = (given[3], given[4])
    return [0]


def need_refusal(shop, day, pieces):
    """The refusal that is due if a day is to need so many, or 0."""
    if day >= len(shop.needs):
        return NONE_SUCH
    if pieces > MOST_NEEDED:
        return OUT_OF_RANGE
    return 0


def need(shop, given):
    day = given[0]
    refusal = need_refusal(shop, day, given[1])
    if refusal < 0:
        return [refusal]
    before = shop.needs[day]
    shop.needs[day] = given[1]
    return [before]


def fees(shop, given):
    if not fees_fit(given[0], given[1]):
        return [OUT_OF_RANGE]
    before = shop.fee_pair
    shop.fee_pair = (given[0], given[1])
    return list(before)


def keeping(shop, given):
    if not keeping_fits(given[0], given[1]):
        return [OUT_OF_RANGE]
    before = shop.keep_pair
    shop.keep_pair = (given[0], given[1])
    return list(before)


def least(shop, given):
    return [least_now(shop)]


def plan(shop, given):
    told = told_plan(shop)
    return [told[0]] + told[1] + told[2]


def plan_refusal(shop, given):
    """The refusal that is due for a plan, or 0."""
    days = len(shop.needs)
    if len(given) != 2 * days or any([pieces > MOST_IN_PLAN for pieces in given]):
        return OUT_OF_RANGE
    brought = given[days:]
    if left_behind(given[:days], brought) is None or left_behind(brought, shop.needs) is None:
        return TOO_LITTLE
    return 0


def cost(shop, given):
    refusal = plan_refusal(shop, given)
    if refusal < 0:
        return [refusal]
    days = len(shop.needs)
    price = cost_of(shop, given[:days], given[days:])
    return [price, price - least_now(shop)]


def lies(shop, given):
    refusal = plan_refusal(shop, given)
    if refusal < 0:
        return [refusal]
    days = len(shop.needs)
    brought = given[days:]
    behind = left_behind(given[:days], brought) + left_behind(brought, shop.needs)
    return [sum(behind)] + behind


def parts(shop, given):
    keep = shop.keep_pair
    above = alone_cost(shop.needs, shop.fee_pair[0], keep[0])
    # The storehouse's part bears keeping above for all pieces, so the shop's part bears only what is more below.
    below = alone_cost(shop.needs, shop.fee_pair[1], keep[1] - keep[0])
    return [above + below, above, below]


def greedy(shop, given):
    price = greedy_cost(shop.needs, shop.fee_pair, shop.keep_pair)
    return [price, price - least_now(shop)]


def alone(shop, given):
    if given[0] > MOST_FEE or given[1] > MOST_KEEPING:
        return [OUT_OF_RANGE]
    return [alone_cost(shop.needs, given[0], given[1])]


def would(shop, given):
    day = given[0]
    refusal = need_refusal(shop, day, given[1])
    if refusal < 0:
        return [refusal]
    needs = list(shop.needs)
    needs[day] = given[1]
    return [least_for(shop, needs), least_now(shop)]


def dear(shop, given):
    if not fees_fit(given[0], given[1]):
        return [OUT_OF_RANGE]
    price = least_plan(shop.needs, (given[0], given[1]), shop.keep_pair)[0]
    return [price, least_now(shop)]


def all_at_first(needs):
    """What is taken day by day, if all that is needed is taken on day 0."""
    return amounts([0], needs)


def both(shop, given):
    return [cost_of(shop, shop.needs, shop.needs)]


def daily(shop, given):
    return [cost_of(shop, all_at_first(shop.needs), shop.needs)]


def once(shop, given):
    first = all_at_first(shop.needs)
    return [cost_of(shop, first, first)]


def together(shop, given):
    if len(given) != len(shop.needs) or any([pieces > MOST_NEEDED for pieces in given]):
        return [OUT_OF_RANGE]
    joined = [one + other for one, other in zip(shop.needs, given)]
    return [least_for(shop, joined), least_now(shop) + least_for(shop, given)]


def sums(shop, given):
    return [0, sum(shop.needs)] + list(shop.fee_pair) + list(shop.keep_pair)


def state(shop, given):
    return [len(shop.needs)] + shop.needs


# By a call's number: what answers it, and how many whole numbers it has (those with a row have none besides).
CALLS = (begin, need, fees, keeping, least, plan, cost, lies, parts, greedy,
         alone, would, dear, both, daily, once, together, sums, state)
SIZES = (5, 2, 2, 2, 0, 0, 0, 0, 0, 0,
         2, 2, 2, 0, 0, 0, 0, 0, 0)
WITH_ROW = (6, 7, 16)
BEGIN = 0


def answer_call(shop, number, given):
    """What one call answers; given are its whole numbers, or its row."""
    if number != BEGIN and len(shop.needs) == 0:
        return [NOT_BEGUN]
    call = CALLS[number]
    return call(shop, given)


def answers(calls):
    """What all calls answer that are made in order on a new shop, each answer behind its length."""
    shop = Shop()
    told = []
    place = 0
    while place < len(calls):
        number = calls[place]
        start = place + 1
        size = SIZES[number]
        if number in WITH_ROW:
            size = calls[start]
            start = start + 1
        place = start + size
        answer = answer_call(shop, number, calls[start:place])
        told.append(len(answer))
        told.extend(answer)
    return told
