"""Lines of all 19 calls in mixed order, held against the document's words gone through call by call."""

import unittest

from tests.helper import (BOTH, DAILY, GREEDY, HIGHEST, LEAST, ONCE, PARTS, PLAN, STATE, SUMS, SlowShop, alone, ask,
                          begin, cost, dear, drawer, fees, keeping, lies, need, together, would)

PIECES = (0, 0, 1, 5, 10, 40, 1000, 1001)
FEES = (0, 7, 50, 10000, 10001)
KEEPING = (0, 1, 1, 2, 100, 101)
DAYS = (0, 1, 2, 3, 4, 5)
LENGTHS = (0, 1, 2, 3, 4, 5, 10)


class Writer:
    """Draws calls, of which many are refused."""

    def __init__(self, seed):
        self.draw = drawer(seed)
        self.days = 1

    def begin(self):
        draw = self.draw
        days = draw((0, 1, 2, 3, 4, 5, 5, 8))
        self.days = days if 1 <= days <= 7 else self.days
        return begin(days, draw(FEES), draw(FEES), draw((0, 0, 1)), draw(KEEPING))

    def row(self, size, choices):
        if self.draw(range(5)) == 0:
            size = self.draw(LENGTHS)
        return [self.draw(choices) for _ in range(size)]

    def plan(self):
        # What is ordered is mostly no less than what is brought, and that no less than what may be needed.
        days = self.days
        if self.draw(range(3)) == 0:
            return self.row(2 * days, (0, 1, 10, 40, 100000, 100001))
        return [9000] + self.row(days - 1, (0, 0, 40)) + [8000] + self.row(days - 1, (0, 0, 1, 40))

    def call(self, number):
        draw = self.draw
        written = {
            0: self.begin,
            1: lambda: need(draw(DAYS), draw(PIECES)),
            2: lambda: fees(draw(FEES), draw(FEES)),
            3: lambda: keeping(draw((0, 0, 1)), draw(KEEPING)),
            6: lambda: cost(self.plan()),
            7: lambda: lies(self.plan()),
            10: lambda: alone(draw(FEES), draw(KEEPING)),
            11: lambda: would(draw(DAYS), draw(PIECES)),
            12: lambda: dear(draw(FEES), draw(FEES)),
            16: lambda: together(self.row(self.days, PIECES[:7]))}
        return written[number]() if number in written else [number]


class MixedLines(unittest.TestCase):
    def held(self, calls):
        """The answers, held against the words."""
        shop = SlowShop()
        told = ask(*calls)
        for place, call in enumerate(calls):
            self.assertEqual(told[place], shop.answer(call), (place, calls[:place + 1]))
        return told

    def test_all_calls_in_mixed_order(self):
        refused, answered, begins = {}, {}, 0
        for seed in range(40):
            writer = Writer(100 + seed)
            numbers = [writer.draw((0,) + tuple(range(19)) + (1, 1, 1, 1)) for _ in range(60)]
            calls = [writer.call(number) for number in numbers]
            told = self.held(calls)
            for number, row in zip(numbers, told):
                if row[0] < 0:
                    self.assertEqual(len(row), 1)
                    refused.setdefault(number, set()).add(row[0])
                else:
                    self.assertGreaterEqual(min(row), 0)
                    answered[number] = answered.get(number, 0) + 1
            begins = max(begins, [row for number, row in zip(numbers, told) if number == 0].count([0]))
        # The lines are worth their name only if each call is answered and each refusal is met.
        self.assertEqual(sorted(answered), list(range(19)))
        self.assertGreater(begins, 2)
        due = {0: {-22}, 1: {-2, -22}, 2: {-22}, 3: {-22}, 6: {-12, -22}, 7: {-12, -22}, 10: {-22}, 11: {-2, -22},
               12: {-22}, 16: {-22}}
        for number in range(19):
            others = set() if number == 0 else {-11}
            self.assertEqual(refused.get(number, set()), due.get(number, set()) | others, number)

    def test_each_call_behind_each_other(self):
        writer = Writer(7)
        every = [need(0, 3), fees(9, 4), keeping(1, 2), LEAST, PLAN, cost([9, 0, 0, 9, 0, 0]),
                 lies([9, 0, 0, 9, 0, 0]), PARTS, GREEDY, alone(5, 1), would(2, 6), dear(3, 30), BOTH, DAILY, ONCE,
                 together([1, 0, 5]), SUMS, STATE, begin(3, 8, 6, 1, 3)]
        self.assertEqual(sorted(call[0] for call in every), list(range(19)))
        calls = [begin(3, 20, 7, 1, 2)]
        for first in every:
            for second in every:
                calls += [first, need(writer.draw((0, 1, 2)), writer.draw((0, 1, 2, 9))), second]
        for start in range(0, len(calls), 399):
            self.held([begin(3, 20, 7, 1, 2)] + calls[start:start + 399])

    def test_several_begins(self):
        calls = []
        for days, terms in [(7, (1, 2, 3, 4)), (0, (0, 0, 0, 0)), (2, (5, 6, 7, 7)), (8, (1, 1, 1, 1)),
                            (1, (0, 0, 0, 100)), (3, (9, 9, 2, 1)), (4, (10000, 10000, 100, 100))]:
            calls += [begin(days, *terms), STATE, SUMS, LEAST, need(0, 5), need(1, 7), need(6, 2), STATE, SUMS, PLAN,
                      would(3, 4), together([1, 2, 3, 4]), together([1, 2]), BOTH, DAILY, ONCE, PARTS, GREEDY]
        self.held(calls)

    def test_four_hundred_calls_over_seven_days(self):
        draw = drawer(8)
        calls = [begin(7, 100, 50, 1, 3)] + [need(day, 10 * (day % 4)) for day in range(7)]
        other = [5, 0, 1000, 0, 20, 1, 0]
        asking = [LEAST, PLAN, cost([900, 0, 0, 0, 0, 0, 0, 300, 0, 300, 0, 0, 0, 300]), lies([100] * 14), PARTS,
                  GREEDY, alone(75, 2), would(5, 0), would(6, 1000), dear(0, 10000), BOTH, DAILY, ONCE,
                  together(other), SUMS, STATE, would(7, 0), together(other[:6]), cost([0] * 14), lies([1] * 15)]
        while len(calls) < 400:
            if len(calls) % 40 == 0:
                change = draw([need(draw(range(7)), draw((0, 33, 70))), fees(draw((0, 90, 300)), 60), keeping(2, 2),
                               keeping(0, 4)])
                calls.append(change)
            else:
                calls.append(draw(asking))
        self.assertEqual(len(calls), 400)
        told = self.held(calls)
        self.assertEqual(len(told), 400)
        self.assertEqual({call[0] for call in calls}, set(range(19)))

    def test_four_hundred_of_the_longest_calls(self):
        calls = [begin(7, 100, 50, 1, 3)] + [need(day, 10 * day) for day in range(7)] + [together([1000] * 7)] * 392
        told = ask(*calls)
        self.assertEqual(len(told), 400)
        self.assertEqual(told[8:], [told[8]] * 392)
        self.held(calls[:9])

    def test_wrong_inputs_at_their_highest(self):
        wrong = [begin(*[HIGHEST] * 5), need(HIGHEST, HIGHEST), fees(HIGHEST, HIGHEST), keeping(HIGHEST, HIGHEST),
                 cost([HIGHEST] * 20), lies([HIGHEST] * 20), alone(HIGHEST, HIGHEST), would(HIGHEST, HIGHEST),
                 dear(HIGHEST, HIGHEST), together([HIGHEST] * 10), cost([]), lies([]), together([])]
        self.held(wrong + [begin(7, 1, 1, 1, 1)] + wrong + [STATE, SUMS])


if __name__ == "__main__":
    unittest.main()
