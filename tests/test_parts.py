"""Of point 3 parts and greedy; and what holds between the least, parts, greedy, alone and together."""

import unittest

from tests.helper import (GREEDY, LEAST, PARTS, alone, ask_shop, drawer, mixed_shops, slow_alone, slow_greedy,
                          slow_plan, together)


def asked(needs, terms, call):
    return ask_shop(needs, terms, call)[0]


class Parts(unittest.TestCase):
    def test_ordinary(self):
        # Above: ordered once, 10 and 4 pieces over a night for 1. Below: likewise, 5 and 4 pieces for 2 less 1.
        self.assertEqual(asked([3, 4], (10, 5, 1, 2), PARTS), [23, 14, 9])
        # Above: 100 and 10. Below: brought twice for 5 each.
        self.assertEqual(asked([10, 10], (100, 5, 1, 3), PARTS), [120, 110, 10])

    def test_nothing_needed(self):
        for days in range(1, 8):
            self.assertEqual(asked([0] * days, (10000, 10000, 100, 100), PARTS), [0, 0, 0])

    def test_days_that_need_nothing_first(self):
        self.assertEqual(asked([0, 0, 5], (10, 5, 1, 2), PARTS), [15, 10, 5])

    def test_one_day_and_seven(self):
        self.assertEqual(asked([9], (10, 5, 1, 2), PARTS), [15, 10, 5])
        self.assertEqual(asked([1000] * 7, (10000, 10000, 50, 100), PARTS), [140000, 70000, 70000])

    def test_keeping_alike_in_both(self):
        self.assertEqual(asked([10, 10], (15, 7, 1, 1), PARTS), [32, 25, 7])

    def test_keeping_above_for_nothing(self):
        self.assertEqual(asked([10, 10], (15, 7, 0, 1), PARTS), [29, 15, 14])

    def test_no_fees(self):
        self.assertEqual(asked([10, 10], (0, 0, 1, 2), PARTS), [0, 0, 0])

    def test_against_the_words(self):
        for needs, terms in mixed_shops(6, 250, 7):
            u, d, a, b = terms
            above, below = slow_alone(needs, u, a)[0], slow_alone(needs, d, b - a)[0]
            self.assertEqual(asked(needs, terms, PARTS), [above + below, above, below], (needs, terms))


class Greedy(unittest.TestCase):
    def test_ordinary(self):
        # The shop: brought twice, 10. The storehouse: ordered once, 10 and 4.
        self.assertEqual(asked([3, 4], (10, 5, 1, 2), GREEDY), [24, 1])
        # The shop: brought once, 9 and 8. The storehouse: 10.
        self.assertEqual(asked([3, 4], (10, 9, 1, 2), GREEDY), [27, 0])

    def test_a_shop_whose_best_alone_makes_the_storehouses_dear(self):
        # The shop: brought twice, 10. The storehouse: ordered once, 100 and 10. Brought once: 15 and 100.
        self.assertEqual(asked([10, 10], (100, 5, 1, 1), GREEDY), [120, 5])

    def test_of_alike_ones_the_shop_takes_the_first(self):
        # Brought on days 0 and 2, or on 0, 1 and 3, the shop costs 70; the storehouse then 1050 or 1070.
        self.assertEqual(asked([5, 15, 10, 15], (1000, 20, 1, 1), GREEDY)[0], 1120)
        # Brought once or twice the shop costs 20; the storehouse then 7, or 14.
        self.assertEqual(asked([10, 10], (7, 10, 1, 1), GREEDY), [27, 0])
        # Brought on days 0 and 1, or on 0 and 2, the shop costs 40; the storehouse then 1020, or 1022.
        self.assertEqual(asked([1, 10, 10], (1000, 15, 1, 1), GREEDY)[0], 1060)

    def test_nothing_needed(self):
        for days in range(1, 8):
            self.assertEqual(asked([0] * days, (10000, 10000, 100, 100), GREEDY), [0, 0])

    def test_days_that_need_nothing_first(self):
        self.assertEqual(asked([0, 0, 5], (10, 5, 1, 2), GREEDY), [15, 0])

    def test_one_day_and_no_fees(self):
        self.assertEqual(asked([9], (10, 5, 1, 2), GREEDY), [15, 0])
        self.assertEqual(asked([9, 8, 7], (0, 0, 1, 2), GREEDY), [0, 0])

    def test_against_the_words(self):
        for needs, terms in mixed_shops(7, 250, 5) + mixed_shops(8, 30, 7):
            price = slow_greedy(needs, terms)
            more = price - slow_plan(needs, terms)[0]
            self.assertEqual(asked(needs, terms, GREEDY), [price, more], (needs, terms))
            self.assertGreaterEqual(more, 0)


class PartByPart(unittest.TestCase):
    """What holds, c and d."""

    def test_never_less_than_part_by_part_nor_more_than_greedy(self):
        for needs, terms in mixed_shops(9, 300, 7):
            least, parts, greedy = [row[0] for row in ask_shop(needs, terms, LEAST, PARTS, GREEDY)]
            self.assertLessEqual(parts, least)
            self.assertLessEqual(least, greedy)

    def test_where_bringing_is_free(self):
        for needs, (u, d, a, b) in mixed_shops(10, 150, 7):
            least, parts, storehouse = ask_shop(needs, (u, 0, a, b), LEAST, PARTS, alone(u, a))
            self.assertEqual(least[0], slow_alone(needs, u, a)[0])
            self.assertEqual(least, storehouse)
            self.assertEqual(parts, [least[0], least[0], 0])

    def test_where_ordering_is_free(self):
        for needs, (u, d, a, b) in mixed_shops(11, 150, 7):
            least, greedy, shop = ask_shop(needs, (0, d, a, b), LEAST, GREEDY, alone(d, b))
            self.assertEqual(least[0], slow_alone(needs, d, b)[0])
            self.assertEqual(least, shop)
            self.assertEqual(greedy, [least[0], 0])

    def test_where_keeping_costs_the_same_in_both(self):
        for needs, (u, d, a, b) in mixed_shops(12, 150, 7):
            self.assertEqual(asked(needs, (u, d, b, b), LEAST)[0], slow_alone(needs, u + d, b)[0])
            # Halved, so that both fees together are a fee that alone takes.
            u, d = u // 2, d // 2
            least, one_store = ask_shop(needs, (u, d, b, b), LEAST, alone(u + d, b))
            self.assertEqual(least, one_store)

    def test_two_shops_together_are_no_dearer_than_apart(self):
        draw = drawer(13)
        cheaper = 0
        for needs, terms in mixed_shops(14, 300, 7):
            other = [draw((0, 0, 1, 5, 40, 1000)) for _ in needs]
            joined, apart = asked(needs, terms, together(other))
            self.assertLessEqual(joined, apart)
            self.assertGreaterEqual(joined, asked(needs, terms, LEAST)[0])
            cheaper += joined < apart
        self.assertGreater(cheaper, 0)


if __name__ == "__main__":
    unittest.main()
