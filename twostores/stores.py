"""What stores cost: one store alone, and a shop with a storehouse behind it.

A set of days is a list of days that go upward. A store's fee and its keeping
are whole numbers; of both stores they are a pair, the storehouse's ahead of
the shop's.
"""


def amounts(days, needs):
    """How much is taken on each day, if on each of the days it is what is needed up to the next of them."""
    taken = [0] * len(needs)
    ends = days[1:] + [len(needs)]
    for day, end in zip(days, ends):
        taken[day] = sum(needs[day:end])
    return taken


def left_behind(came, went):
    """How much lies in a store behind each day, or None where there is too little on some day."""
    lying = 0
    behind = []
    for more, less in zip(came, went):
        lying = lying + more - less
        if lying < 0:
            return None
        behind.append(lying)
    return behind


def store_cost(fee, keep, came, behind):
    """What one store costs, by what came on each day and what lies behind each."""
    return fee * len([pieces for pieces in came if pieces > 0]) + keep * sum(behind)


def plan_cost(ordered, brought, needs, fees, keeps):
    """What a plan costs that has never too little."""
    above = store_cost(fees[0], keeps[0], ordered, left_behind(ordered, brought))
    below = store_cost(fees[1], keeps[1], brought, left_behind(brought, needs))
    return above + below


def span_cost(day, end, needs, fee, keep):
    """What it costs to take on a day all that is needed from it up to an end."""
    pieces = 0
    nights = 0
    for later in range(day, end):
        pieces = pieces + needs[later]
        nights = nights + needs[later] * (later - day)
    if pieces == 0:
        return 0
    return fee + keep * nights


def best_before(end, best, needs, fee, keep):
    """The least cost of what is needed before an end, with its set of days; None where there is too little.

    best has the same for each day before the end on which something may be taken.
    """
    # No day at all is the first of all sets, and nothing is cheaper.
    if sum(needs[:end]) == 0:
        return (0, [])
    told = None
    # The last days go upward, so of sets as cheap the first one is met first and stays.
    for day in best:
        before = best[day]
        if before is None:
            continue
        price = before[0] + span_cost(day, end, needs, fee, keep)
        if told is None or price < told[0]:
            told = (price, before[1] + [day])
    return told


def best_alone(days, needs, fee, keep):
    """The least that one store alone costs, and the first set among the days by which it costs that.

    None where whatever set among the days has too little.
    """
    best = {}
    for day in days:
        best[day] = best_before(day, best, needs, fee, keep)
    return best_before(len(needs), best, needs, fee, keep)


def alone_cost(needs, fee, keep):
    """The least that one store alone costs."""
    return best_alone(list(range(len(needs))), needs, fee, keep)[0]


def day_sets(count):
    """All sets of so many days; of two, the one without the greatest day that is in one alone is first."""
    sets = [[]]
    for day in range(count):
        sets = sets + [days + [day] for days in sets]
    return sets


def least_plan(needs, fees, keeps):
    """The least that both stores cost, then the plan told: what is ordered each day, what is brought each day."""
    told = None
    for days in day_sets(len(needs)):
        brought = amounts(days, needs)
        behind = left_behind(brought, needs)
        if behind is None:
            continue
        above = best_alone(days, brought, fees[0], keeps[0])
        price = above[0] + store_cost(fees[1], keeps[1], brought, behind)
        if told is None or price < told[0]:
            told = (price, amounts(above[1], brought), brought)
    return told


def greedy_cost(needs, fees, keeps):
    """What both stores cost if the shop does what is cheapest for itself, and then the storehouse for itself."""
    below = best_alone(list(range(len(needs))), needs, fees[1], keeps[1])
    return below[0] + alone_cost(amounts(below[1], needs), fees[0], keeps[0])
