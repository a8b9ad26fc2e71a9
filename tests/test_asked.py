"""Of point 3 alone, and point 4: would, dear, both, daily, once, together, sums, state."""

import unittest

from tests.helper import (BOTH, DAILY, GREEDY, HIGHEST, LEAST, ONCE, PARTS, PLAN, STATE, SUMS, alone, ask, ask_shop,
                          begin, cost, dear, drawer, fees, keeping, mixed_shops, need, slow_alone, slow_cost,
                          slow_plan, together, would)

ALL_OF_IT = [LEAST, PLAN, SUMS, STATE, PARTS, GREEDY, BOTH, DAILY, ONCE]


def asked(needs, terms, call):
    return ask_shop(needs, terms, call)[0]


def slow_least(needs, terms):
    return slow_plan(needs, terms)[0]


class LeavesAllAsItWas(unittest.TestCase):
    def check(self, needs, terms, *calls):
        """What some calls answer, seen that the object is behind each of them as it was."""
        plain = ask_shop(needs, terms, *ALL_OF_IT)
        for call in calls:
            told = ask_shop(needs, terms, call, *ALL_OF_IT, call)
            self.assertEqual(told[1:-1], plain, call)
            self.assertEqual(told[0], told[-1], call)
        self.assertEqual(plain[2], [0, sum(needs)] + list(terms))
        self.assertEqual(plain[3], [len(needs)] + needs)

    def test_would(self):
        self.check([4, 5, 6], (30, 20, 1, 2), would(0, 900), would(2, 0), would(1, 5), would(3, 5), would(0, 1001))

    def test_dear(self):
        self.check([4, 5, 6], (30, 20, 1, 2), dear(0, 0), dear(10000, 10000), dear(1, 10001), dear(10001, 1))

    def test_together(self):
        self.check([4, 5, 6], (30, 20, 1, 2), together([1000, 0, 7]), together([0, 0, 0]), together([]),
                   together([1, 2]), together([1, 2, 3, 4]), together([1, 2, 1001]))

    def test_alone(self):
        self.check([4, 5, 6], (30, 20, 1, 2), alone(0, 0), alone(10000, 100), alone(10001, 0), alone(0, 101))

    def test_what_has_only_been_asked(self):
        self.check([4, 5, 6], (30, 20, 1, 2), *ALL_OF_IT)

    def test_mixed(self):
        for needs, terms in mixed_shops(20, 60, 7):
            self.check(needs, terms, would(len(needs) - 1, 11), dear(17, 3), together([9] * len(needs)))


class Alone(unittest.TestCase):
    def test_ordinary(self):
        # Ordered once, 10 and 4 pieces over a night for 1; then for 3: twice is cheaper.
        self.assertEqual(ask_shop([3, 4], (10, 5, 1, 2), alone(10, 1), alone(10, 3)), [[14], [20]])
        # Ordered on days 0 and 2: 200, 10 and 20 pieces over a night for 2.
        self.assertEqual(asked([40, 10, 60, 20], (0, 0, 0, 0), alone(100, 2)), [260])

    def test_nothing_needed(self):
        for days in range(1, 8):
            self.assertEqual(asked([0] * days, (1, 1, 1, 1), alone(10000, 100)), [0])

    def test_days_that_need_nothing_first(self):
        self.assertEqual(asked([0, 0, 5], (1, 1, 1, 1), alone(7, 100)), [7])
        self.assertEqual(asked([0, 5, 0, 5], (1, 1, 1, 1), alone(7, 1)), [14])
        self.assertEqual(asked([0, 3, 0, 3], (1, 1, 1, 1), alone(7, 1)), [13])

    def test_keeping_for_nothing_and_no_fee(self):
        self.assertEqual(ask_shop([9, 8, 7], (5, 5, 5, 5), alone(7, 0), alone(0, 7), alone(0, 0)), [[7], [0], [0]])

    def test_one_day_and_seven(self):
        self.assertEqual(asked([1], (1, 1, 1, 1), alone(10000, 100)), [10000])
        self.assertEqual(asked([1] * 7, (1, 1, 1, 1), alone(10000, 1)), [10021])
        self.assertEqual(asked([1000] * 7, (1, 1, 1, 1), alone(10000, 100)), [70000])

    def test_the_shops_own_fees_and_keeping_are_nothing_to_it(self):
        for terms in [(0, 0, 0, 0), (10000, 0, 0, 100), (0, 10000, 100, 100)]:
            self.assertEqual(asked([3, 4], terms, alone(10, 1)), [14])

    def test_just_in_range_and_just_beyond(self):
        told = ask_shop([1, 1], (0, 0, 0, 0), alone(10000, 100), alone(10001, 100), alone(10000, 101),
                        alone(10001, 101), alone(HIGHEST, 0), alone(0, HIGHEST), alone(10001, 0), alone(0, 101))
        self.assertEqual(told, [[10100]] + [[-22]] * 7)

    def test_keeping_may_be_more_than_the_shops(self):
        self.assertEqual(asked([3, 4], (1, 1, 0, 0), alone(1000, 100)), [1400])

    def test_against_the_words(self):
        for needs, (u, d, a, b) in mixed_shops(21, 200, 7):
            told = ask_shop(needs, (1, 2, 3, 4), alone(u, a), alone(d, b), alone(10000, 100), alone(33, 7))
            slow = [slow_alone(needs, *pair)[:1] for pair in [(u, a), (d, b), (10000, 100), (33, 7)]]
            self.assertEqual(told, [list(row) for row in slow], needs)

    def test_parts_are_two_stores_alone(self):
        for needs, (u, d, a, b) in mixed_shops(22, 100, 7):
            parts, above, below = ask_shop(needs, (u, d, a, b), PARTS, alone(u, a), alone(d, b - a))
            self.assertEqual(parts, [above[0] + below[0]] + above + below)


class Would(unittest.TestCase):
    def test_ordinary(self):
        # Needs 3 and 4: brought once, 15 and 8. Needs 3 and 5: brought twice, ordered once, 20 and 5.
        self.assertEqual(asked([3, 4], (10, 5, 1, 2), would(1, 5)), [25, 23])
        self.assertEqual(asked([3, 4], (10, 5, 1, 2), would(1, 0)), [15, 23])
        self.assertEqual(asked([3, 4], (10, 5, 1, 2), would(0, 0)), [15, 23])
        self.assertEqual(asked([3, 4], (10, 5, 1, 2), would(1, 4)), [23, 23])

    def test_nothing_needed(self):
        self.assertEqual(asked([0] * 7, (10, 5, 1, 2), would(6, 0)), [0, 0])
        self.assertEqual(asked([0] * 7, (10, 5, 1, 2), would(6, 1)), [15, 0])
        self.assertEqual(asked([0, 9], (10, 5, 1, 2), would(1, 0)), [0, 15])

    def test_one_day(self):
        self.assertEqual(asked([9], (10, 5, 1, 2), would(0, 1000)), [15, 15])

    def test_just_in_range_and_just_beyond(self):
        for days in range(1, 8):
            told = ask_shop([0] * days, (10, 5, 1, 2), would(days - 1, 1000), would(days - 1, 1001),
                            would(days - 1, HIGHEST), would(days, 1000), would(HIGHEST, 0))
            self.assertEqual(told, [[15, 0], [-22], [-22], [-2], [-2]])

    def test_no_such_day_is_told_ahead_of_too_many(self):
        told = ask_shop([0, 0], (1, 1, 1, 1), would(2, 1001), would(HIGHEST, HIGHEST), would(1, 1001))
        self.assertEqual(told, [[-2], [-2], [-22]])

    def test_it_is_the_least_if_it_is_needed(self):
        for needs, terms in mixed_shops(23, 120, 7):
            for day in (0, len(needs) - 1):
                for pieces in (0, 13, 1000):
                    told = ask_shop(needs, terms, would(day, pieces), LEAST, need(day, pieces), LEAST)
                    self.assertEqual(told[0], told[3] + told[1])

    def test_against_the_words(self):
        for needs, terms in mixed_shops(24, 120, 5):
            for day in range(len(needs)):
                other = needs[:day] + [6] + needs[day + 1:]
                told = [slow_least(other, terms), slow_least(needs, terms)]
                self.assertEqual(asked(needs, terms, would(day, 6)), told, (needs, terms))


class Dear(unittest.TestCase):
    def test_ordinary(self):
        self.assertEqual(asked([3, 4], (10, 5, 1, 2), dear(10, 20)), [38, 23])
        self.assertEqual(asked([3, 4], (10, 5, 1, 2), dear(20, 1)), [26, 23])
        self.assertEqual(asked([3, 4], (10, 5, 1, 2), dear(10, 5)), [23, 23])

    def test_the_fee_above_is_the_first(self):
        # Ordered for nothing, brought twice for 3; or ordered once for 30, 10 pieces over a night, brought for nothing.
        self.assertEqual(asked([10, 10], (7, 7, 1, 9), dear(0, 3)), [6, 28])
        self.assertEqual(asked([10, 10], (7, 7, 1, 9), dear(30, 0)), [40, 28])

    def test_nothing_needed_and_one_day(self):
        self.assertEqual(asked([0, 0], (10, 5, 1, 2), dear(10000, 10000)), [0, 0])
        self.assertEqual(asked([1], (10, 5, 1, 2), dear(10000, 10000)), [20000, 15])

    def test_no_fees(self):
        self.assertEqual(asked([1, 2], (10, 5, 1, 2), dear(0, 0)), [0, 19])

    def test_just_in_range_and_just_beyond(self):
        told = ask_shop([1], (1, 2, 3, 4), dear(10000, 10000), dear(10000, 0), dear(0, 10000), dear(10001, 10000),
                        dear(10000, 10001), dear(10001, 10001), dear(HIGHEST, 0), dear(0, HIGHEST))
        self.assertEqual(told, [[20000, 3], [10000, 3], [10000, 3]] + [[-22]] * 5)

    def test_it_is_the_least_if_these_are_the_fees(self):
        for needs, terms in mixed_shops(25, 120, 7):
            for pair in [(0, 0), (10000, 10000), (17, 40), (40, 17)]:
                told = ask_shop(needs, terms, dear(*pair), LEAST, fees(*pair), LEAST)
                self.assertEqual(told[0], told[3] + told[1])

    def test_against_the_words(self):
        for needs, terms in mixed_shops(26, 200, 5):
            told = [slow_least(needs, (19, 4) + terms[2:]), slow_least(needs, terms)]
            self.assertEqual(asked(needs, terms, dear(19, 4)), told, (needs, terms))


class BothDailyOnce(unittest.TestCase):
    def check(self, needs, terms, both, daily, once):
        self.assertEqual(ask_shop(needs, terms, BOTH, DAILY, ONCE), [[both], [daily], [once]], (needs, terms))

    def test_ordinary(self):
        self.check([3, 4], (10, 5, 1, 2), 30, 24, 23)
        # Both: twice 150. Daily: 100, twice 50, 5 pieces over two nights for 1. Once: 150, and these for 3.
        self.check([4, 0, 5], (100, 50, 1, 3), 300, 210, 180)

    def test_nothing_needed(self):
        for days in range(1, 8):
            self.check([0] * days, (10000, 10000, 100, 100), 0, 0, 0)

    def test_days_that_need_nothing_first(self):
        self.check([0, 0, 5], (10, 7, 1, 2), 17, 27, 37)

    def test_days_that_need_nothing_last(self):
        self.check([5, 0, 0], (10, 7, 1, 2), 17, 17, 17)

    def test_keeping_above_for_nothing(self):
        self.check([5, 5, 5], (10, 1, 0, 1), 33, 13, 26)

    def test_no_fees(self):
        self.check([5, 6, 7], (0, 0, 1, 2), 0, 20, 40)
        self.check([5, 6, 7], (0, 0, 0, 0), 0, 0, 0)

    def test_one_day_and_seven(self):
        self.check([9], (10, 5, 1, 2), 15, 15, 15)
        self.check([1000] * 7, (10000, 10000, 99, 100), 140000, 80000 + 21000 * 99, 20000 + 21000 * 100)

    def test_keeping_alike_in_both(self):
        self.check([10, 10, 10], (15, 2, 1, 1), 51, 51, 47)

    def test_they_are_what_cost_tells_of_these_plans(self):
        for needs, terms in mixed_shops(27, 250, 7):
            first = [sum(needs)] + [0] * (len(needs) - 1)
            plans = [needs + needs, first + needs, first + first]
            told = ask_shop(needs, terms, BOTH, DAILY, ONCE, *[cost(plan) for plan in plans], LEAST)
            for plan, row, costs in zip(plans, told, told[3:]):
                days = len(needs)
                self.assertEqual(row, [slow_cost(plan[:days], plan[days:], needs, terms)])
                self.assertEqual(row, costs[:1])
                self.assertGreaterEqual(row, told[6])


class Together(unittest.TestCase):
    def test_ordinary(self):
        # Apart both are brought once: 15 and 8, 15 and 2. Together: brought twice, ordered once, 20 and 5.
        self.assertEqual(asked([3, 4], (10, 5, 1, 2), together([1, 1])), [25, 40])
        # One day each: apart ordered and brought on each; together the same.
        self.assertEqual(asked([9, 0], (10, 5, 20, 20), together([0, 9])), [30, 30])

    def test_nothing_needed_in_one_or_both(self):
        self.assertEqual(asked([0, 0], (10, 5, 1, 2), together([0, 0])), [0, 0])
        self.assertEqual(asked([3, 4], (10, 5, 1, 2), together([0, 0])), [23, 23])
        self.assertEqual(asked([0, 0], (10, 5, 1, 2), together([3, 4])), [23, 23])

    def test_days_that_need_nothing_first(self):
        self.assertEqual(asked([0, 0, 5], (10, 5, 1, 2), together([0, 1, 0])), [25, 30])

    def test_one_day_and_seven(self):
        self.assertEqual(asked([9], (10, 5, 1, 2), together([1000])), [15, 30])
        self.assertEqual(asked([1] * 7, (10000, 10000, 1, 1), together([1] * 7)), [20042, 40042])

    def test_both_may_need_more_than_one_may(self):
        told = asked([1000] * 7, (10000, 10000, 100, 100), together([1000] * 7))
        self.assertEqual(told, [140000, 280000])
        # 2000 pieces kept over a night are dearer than a second order, 1000 are not.
        self.assertEqual(asked([1, 1000], (1500, 0, 1, 1), together([0, 1000])), [3000, 2500 + 1500])

    def test_as_many_needs_as_days(self):
        for days in range(1, 8):
            for size in range(11):
                told = asked([0] * days, (10, 5, 1, 2), together([1] + [0] * (size - 1) if size else []))
                self.assertEqual(told, [15, 15] if size == days else [-22], (days, size))

    def test_just_in_range_and_just_beyond(self):
        for place in range(3):
            for number, told in [(1000, [15, 15]), (1001, [-22]), (HIGHEST, [-22])]:
                needs = [0, 0, 0]
                needs[place] = number
                self.assertEqual(asked([0, 0, 0], (10, 5, 1, 2), together(needs)), told)

    def test_too_many_of_which_one_is_too_much(self):
        told = ask_shop([0, 0], (1, 1, 1, 1), together([0, 0, 1001]), together([1001]), together([HIGHEST] * 10))
        self.assertEqual(told, [[-22]] * 3)

    def test_against_the_words(self):
        draw = drawer(28)
        for needs, terms in mixed_shops(29, 200, 5) + mixed_shops(30, 20, 7):
            other = [draw((0, 1, 2, 5, 10, 999, 1000)) for _ in needs]
            both = [one + more for one, more in zip(needs, other)]
            apart = slow_least(needs, terms) + slow_least(other, terms)
            self.assertEqual(asked(needs, terms, together(other)), [slow_least(both, terms), apart], (needs, terms))


class SumsAndState(unittest.TestCase):
    def test_ordinary(self):
        told = ask_shop([3, 0, 4], (10, 5, 1, 2), SUMS, STATE)
        self.assertEqual(told, [[0, 7, 10, 5, 1, 2], [3, 3, 0, 4]])

    def test_nothing_needed(self):
        for days in range(1, 8):
            self.assertEqual(ask(begin(days, 1, 2, 3, 4), SUMS, STATE)[1:], [[0, 0, 1, 2, 3, 4], [days] + [0] * days])

    def test_at_the_bounds(self):
        told = ask_shop([1000] * 7, (10000, 10000, 100, 100), SUMS, STATE)
        self.assertEqual(told, [[0, 7000, 10000, 10000, 100, 100], [7] + [1000] * 7])

    def test_what_was_changed(self):
        told = ask_shop([3, 4], (10, 5, 1, 2), need(1, 9), fees(7, 8), keeping(3, 6), SUMS, STATE)
        self.assertEqual(told[3:], [[0, 12, 7, 8, 3, 6], [2, 3, 9]])

    def test_a_begin_anew(self):
        told = ask_shop([3, 4], (10, 5, 1, 2), begin(3, 6, 5, 4, 7), SUMS, STATE)
        self.assertEqual(told[1:], [[0, 0, 6, 5, 4, 7], [3, 0, 0, 0]])


if __name__ == "__main__":
    unittest.main()
