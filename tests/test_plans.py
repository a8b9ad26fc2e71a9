"""Point 2: least, plan, cost, lies."""

import unittest

from tests.helper import (HIGHEST, LEAST, PLAN, alone, ask_shop, behind, cost, dear, every_plan, lies, mixed_shops,
                          slow_cost, slow_plan, would)


def asked(needs, terms, call):
    return ask_shop(needs, terms, call)[0]


class TheLeast(unittest.TestCase):
    def check(self, needs, terms, price, ordered, brought):
        self.assertEqual(ask_shop(needs, terms, LEAST, PLAN), [[price], [price] + ordered + brought])
        self.assertEqual(slow_plan(needs, terms), (price, ordered, brought))

    def test_ordinary(self):
        self.check([3, 4], (10, 5, 1, 2), 23, [7, 0], [7, 0])
        self.check([30, 0, 30, 40], (100, 20, 1, 3), 300, [30, 0, 70, 0], [30, 0, 30, 40])
        self.check([5, 0, 30, 40, 7, 60, 9], (100, 50, 1, 3), 595,
                   [5, 0, 77, 0, 0, 69, 0], [5, 0, 30, 47, 0, 69, 0])

    def test_nothing_needed(self):
        for days in range(1, 8):
            self.check([0] * days, (10000, 10000, 100, 100), 0, [0] * days, [0] * days)

    def test_days_that_need_nothing_first(self):
        self.check([0, 0, 5], (10, 5, 1, 2), 15, [0, 0, 5], [0, 0, 5])
        self.check([0, 5, 5], (10, 5, 1, 1), 20, [0, 10, 0], [0, 10, 0])

    def test_days_that_need_nothing_first_where_keeping_is_for_nothing(self):
        self.check([0, 5], (10, 5, 0, 0), 15, [5, 0], [5, 0])
        self.check([0, 5], (10, 5, 0, 1), 15, [0, 5], [0, 5])

    def test_keeping_above_for_nothing(self):
        self.check([5, 5, 5], (10, 1, 0, 1), 13, [15, 0, 0], [5, 5, 5])
        self.check([5, 5, 5], (0, 1, 0, 1), 3, [15, 0, 0], [5, 5, 5])

    def test_no_fees(self):
        self.check([5, 6, 7], (0, 0, 1, 2), 0, [5, 6, 7], [5, 6, 7])
        self.check([5, 6, 7], (0, 0, 0, 2), 0, [18, 0, 0], [5, 6, 7])
        self.check([5, 6, 7], (0, 0, 0, 0), 0, [18, 0, 0], [18, 0, 0])

    def test_one_day(self):
        self.check([1000], (10000, 10000, 100, 100), 20000, [1000], [1000])
        self.check([1], (0, 3, 0, 0), 3, [1], [1])

    def test_seven_days(self):
        self.check([1000] * 7, (10000, 10000, 100, 100), 140000, [1000] * 7, [1000] * 7)
        self.check([1] * 7, (10000, 10000, 1, 1), 20021, [7] + [0] * 6, [7] + [0] * 6)

    def test_keeping_alike_in_both(self):
        self.check([10, 10, 10], (15, 1, 1, 1), 42, [10, 20, 0], [10, 20, 0])

    def test_brought_more_often_than_ordered(self):
        self.check([10, 10], (30, 5, 1, 9), 50, [20, 0], [10, 10])


class OfAlikeOnesTheFirst(unittest.TestCase):
    def test_bringing_on_fewer_late_days_is_first(self):
        # Brought once or twice it costs 20.
        self.assertEqual(asked([10, 10], (0, 10, 0, 1), PLAN), [20, 20, 0, 20, 0])

    def test_the_greatest_day_that_is_in_one_alone(self):
        # Brought on days 0 and 2, or on 0, 1 and 3, it costs 70.
        self.assertEqual(asked([5, 15, 10, 15], (0, 20, 0, 1), PLAN), [70, 45, 0, 0, 0, 20, 0, 25, 0])
        # Brought on days 0 and 1, or on 0 and 2, it costs 40.
        self.assertEqual(asked([1, 10, 10], (0, 15, 0, 1), PLAN), [40, 21, 0, 0, 1, 20, 0])

    def test_days_of_ordering_come_behind_days_of_bringing(self):
        # Brought twice; ordered once or twice it costs 22.
        self.assertEqual(asked([10, 10], (10, 1, 1, 100), PLAN), [22, 20, 0, 10, 10])
        # Brought and ordered once, or both twice: 40.
        self.assertEqual(asked([10, 10], (10, 10, 2, 2), PLAN), [40, 20, 0, 20, 0])

    def test_ordered_among_the_days_of_bringing_though_sooner_is_as_cheap(self):
        self.assertEqual(asked([0, 0, 4], (1, 1, 0, 1), PLAN), [2, 0, 0, 4, 0, 0, 4])

    def test_all_pairs_of_sets_gone_through(self):
        for needs, terms in mixed_shops(1, 400, 5) + mixed_shops(2, 30, 7):
            price, ordered, brought = slow_plan(needs, terms)
            told = ask_shop(needs, terms, LEAST, PLAN)
            self.assertEqual(told, [[price], [price] + ordered + brought], (needs, terms))


class Cost(unittest.TestCase):
    def test_ordinary(self):
        self.assertEqual(asked([3, 4], (10, 5, 1, 2), cost([7, 0, 7, 0])), [23, 0])
        self.assertEqual(asked([3, 4], (10, 5, 1, 2), cost([7, 0, 3, 4])), [24, 1])
        self.assertEqual(asked([3, 4], (10, 5, 1, 2), cost([3, 4, 3, 4])), [30, 7])

    def test_a_plan_that_leaves_something(self):
        self.assertEqual(asked([3, 4], (10, 5, 1, 2), cost([8, 0, 7, 0])), [25, 2])
        self.assertEqual(asked([3, 4], (10, 5, 1, 2), cost([8, 0, 8, 0])), [27, 4])
        self.assertEqual(asked([3, 4], (10, 5, 1, 2), cost([8, 1, 4, 4])), [39, 16])
        self.assertEqual(asked([3, 4], (10, 5, 1, 2), cost([7, 2, 7, 0])), [35, 12])

    def test_nothing_needed(self):
        self.assertEqual(asked([0, 0], (10, 5, 1, 2), cost([0, 0, 0, 0])), [0, 0])
        self.assertEqual(asked([0, 0], (10, 5, 1, 2), cost([0, 1, 0, 0])), [11, 11])
        self.assertEqual(asked([0, 0], (10, 5, 1, 2), cost([1, 0, 0, 1])), [18, 18])

    def test_the_plan_told_costs_the_least(self):
        for needs, terms in mixed_shops(3, 150, 7):
            told = asked(needs, terms, PLAN)
            self.assertEqual(asked(needs, terms, cost(told[1:])), [told[0], 0])

    def test_against_the_words(self):
        plans = [[9, 0, 0, 4, 2, 3], [9, 9, 9, 9, 9, 9], [4, 2, 3, 4, 2, 3], [0, 0, 0, 0, 0, 0], [9, 0, 0, 9, 0, 0]]
        for plan in plans:
            for needs, terms in [([4, 2, 3], (7, 5, 1, 3)), ([0, 2, 0], (0, 9, 2, 2)), ([0, 0, 0], (1, 1, 0, 9))]:
                price = slow_cost(plan[:3], plan[3:], needs, terms)
                more = [-12] if price is None else [price, price - slow_plan(needs, terms)[0]]
                self.assertEqual(asked(needs, terms, cost(plan)), more)


class Lies(unittest.TestCase):
    def test_ordinary(self):
        self.assertEqual(asked([3, 4], (10, 5, 1, 2), lies([7, 0, 7, 0])), [4, 0, 0, 4, 0])
        self.assertEqual(asked([3, 4], (10, 5, 1, 2), lies([7, 0, 3, 4])), [4, 4, 0, 0, 0])
        self.assertEqual(asked([3, 4], (10, 5, 1, 2), lies([8, 1, 4, 4])), [7, 4, 1, 1, 1])

    def test_what_is_left_stays_to_the_last_day(self):
        self.assertEqual(asked([0, 0, 0], (0, 0, 0, 0), lies([5, 0, 0, 2, 0, 0])), [15, 3, 3, 3, 2, 2, 2])

    def test_nothing_lies(self):
        self.assertEqual(asked([0], (1, 1, 1, 1), lies([0, 0])), [0, 0, 0])
        self.assertEqual(asked([2, 0, 3], (1, 1, 1, 1), lies([2, 0, 3] * 2)), [0] * 7)

    def test_against_the_words(self):
        plan = [30, 0, 0, 5, 0, 9, 1, 10, 2, 3, 10, 0, 3, 4]
        needs = [7, 4, 1, 0, 9, 2, 1]
        above, below = behind(plan[:7], plan[7:]), behind(plan[7:], needs)
        self.assertEqual(asked(needs, (9, 8, 7, 7), lies(plan)), [sum(above + below)] + above + below)


class PlansRefused(unittest.TestCase):
    def check(self, needs, plan, number):
        self.assertEqual(ask_shop(needs, (10, 5, 1, 2), cost(plan), lies(plan)), [[number]] * 2, plan)

    def test_wrong_length(self):
        for days in range(1, 8):
            for size in range(21):
                if size != 2 * days:
                    self.check([0] * days, [0] * size, -22)
                    self.check([1] * days, [9] * size, -22)

    def test_numbers_out_of_range(self):
        for place in range(6):
            for number in (100001, HIGHEST):
                plan = [100000] * 6
                plan[place] = number
                self.check([0, 0, 0], plan, -22)

    def test_numbers_just_in_range(self):
        told = ask_shop([1000], (10000, 10000, 100, 100), cost([100000] * 2), lies([100000] * 2))
        self.assertEqual(told, [[9920000, 9900000], [99000, 0, 99000]])
        told = ask_shop([0] * 7, (0, 0, 0, 1), cost([100000] * 14), lies([100000] * 14))
        self.assertEqual(told, [[2800000] * 2, [2800000] + [0] * 7 + [100000 * t for t in range(1, 8)]])

    def test_too_little_above(self):
        self.check([3, 4], [6, 0, 3, 4], -12)
        self.check([3, 4], [2, 9, 3, 4], -12)
        self.check([0, 0], [0, 1, 1, 0], -12)
        self.check([0, 0, 0], [1, 0, 0, 1, 0, 1], -12)

    def test_too_little_below(self):
        self.check([3, 4], [9, 0, 3, 3], -12)
        self.check([3, 4], [9, 0, 2, 7], -12)
        self.check([3, 4], [0, 0, 0, 0], -12)
        self.check([0, 0, 1], [9, 9, 9, 0, 0, 0], -12)

    def test_just_enough(self):
        self.assertEqual(asked([3, 4], (10, 5, 1, 2), lies([3, 4, 3, 4])), [0] * 5)

    def test_out_of_range_is_told_ahead_of_too_little(self):
        self.check([3, 4], [0, 0, 0, 100001], -22)
        self.check([3, 4], [0, 0, 0], -22)


class NoPlanAtAllCostsLess(unittest.TestCase):
    """What holds, a: over small plans gone through one by one."""

    shops = [([1, 2], 4), ([2, 0], 3), ([0, 2], 3), ([0, 0], 2), ([3], 9), ([1, 0, 1], 2), ([0, 1, 1], 2),
             ([1, 1, 1], 3)]
    terms = [(2, 1, 1, 1), (0, 0, 0, 0), (3, 2, 0, 1), (1, 3, 1, 4), (0, 3, 2, 2), (4, 0, 1, 2), (2, 2, 0, 0)]

    def test_gone_through_by_the_words(self):
        for needs, most in self.shops:
            days = len(needs)
            plans = [(plan[:days], plan[days:]) for plan in every_plan(days, most)]
            for terms in self.terms:
                prices = [slow_cost(ordered, brought, needs, terms) for ordered, brought in plans]
                lowest = min(price for price in prices if price is not None)
                self.assertEqual(asked(needs, terms, LEAST), [lowest], (needs, terms))

    def test_gone_through_by_cost(self):
        for needs, most in self.shops[:5]:
            days = len(needs)
            plans = list(every_plan(days, most))
            for terms in self.terms:
                told = []
                for start in range(0, len(plans), 300):
                    told += ask_shop(needs, terms, *[cost(plan) for plan in plans[start:start + 300]])
                for plan, row in zip(plans, told):
                    price = slow_cost(plan[:days], plan[days:], needs, terms)
                    self.assertEqual(row[0], -12 if price is None else price)
                self.assertEqual(min(row[1] for row in told if row[0] >= 0), 0)


class ThePlanToldHolds(unittest.TestCase):
    """What holds, b."""

    def test_orders_and_bringings(self):
        for needs, terms in mixed_shops(4, 300, 7):
            days = len(needs)
            told = asked(needs, terms, PLAN)
            ordered, brought = told[1:1 + days], told[1 + days:]
            above, below = behind(ordered, brought), behind(brought, needs)
            self.assertEqual(len(brought), days)
            self.assertEqual(sum(ordered), sum(needs))
            self.assertEqual((above[-1], below[-1]), (0, 0))
            for day in range(days):
                self.assertTrue(not ordered[day] or brought[day])
                self.assertTrue(not brought[day] or day == 0 or below[day - 1] == 0)
                self.assertTrue(not ordered[day] or day == 0 or above[day - 1] == 0)


class NeverCheaper(unittest.TestCase):
    """What holds, e."""

    def test_more_needed_dearer_fees_dearer_keeping(self):
        for needs, terms in mixed_shops(5, 120, 6):
            now = asked(needs, terms, LEAST)[0]
            for day in range(len(needs)):
                more = list(needs)
                more[day] = min(1000, more[day] + 3)
                self.assertGreaterEqual(asked(more, terms, LEAST)[0], now)
            u, d, a, b = terms
            for dearer in [(min(u + 5, 10000), d, a, b), (u, min(d + 5, 10000), a, b), (u, d, min(a + 1, b), b),
                           (u, d, a, min(b + 1, 100))]:
                self.assertGreaterEqual(asked(needs, dearer, LEAST)[0], now)

    def test_asked_with_would_and_dear(self):
        for needs, terms in mixed_shops(15, 120, 6):
            for day in range(len(needs)):
                more, now = asked(needs, terms, would(day, min(1000, needs[day] + 3)))
                fewer, as_now = asked(needs, terms, would(day, needs[day] // 2))
                self.assertLessEqual(fewer, now)
                self.assertLessEqual(now, more)
                self.assertEqual(now, as_now)
            u, d = terms[:2]
            for pair in [(min(u + 5, 10000), d), (u, min(d + 5, 10000)), (10000, 10000)]:
                dearer, now = asked(needs, terms, dear(*pair))
                self.assertLessEqual(now, dearer)

    def test_of_one_store_alone(self):
        for needs, (u, d, a, b) in mixed_shops(16, 120, 6):
            now, more_fee, more_keeping = ask_shop(needs, (u, d, a, b), alone(u, a), alone(min(u + 5, 10000), a),
                                                   alone(u, b))
            self.assertLessEqual(now, more_fee)
            self.assertLessEqual(now, more_keeping)


if __name__ == "__main__":
    unittest.main()
