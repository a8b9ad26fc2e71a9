"""How calls and answers stand in their lists, and what holds of an object from call to call."""

import copy
import unittest

from tests.helper import (BOTH, DAILY, GREEDY, HIGHEST, LEAST, ONCE, PARTS, PLAN, STATE, SUMS, alone, ask, ask_last,
                          ask_shop, begin, cost, dear, fees, keeping, lies, need, together, would)
from twostores.shop import answers

OTHERS = [need(0, 1), fees(1, 1), keeping(1, 1), LEAST, PLAN, cost([0, 0]), lies([0, 0]), PARTS, GREEDY, alone(1, 1),
          would(0, 1), dear(1, 1), BOTH, DAILY, ONCE, together([1]), SUMS, STATE]


class Unchanging(list):
    """A list that fails when it is changed, even for a while."""

    def refuse(self, *given, **named):
        raise AssertionError("the list that was handed in is changed")

    append = extend = insert = pop = remove = clear = sort = reverse = refuse
    __setitem__ = __delitem__ = __iadd__ = __imul__ = refuse


class TheList(unittest.TestCase):
    def test_each_answer_stands_behind_its_length(self):
        calls = [4, 0, 2, 10, 5, 1, 2, 1, 0, 3, 1, 1, 4, 4, 5, 6, 4, 8, 1, 4, 4,
                 7, 4, 8, 1, 4, 4, 8, 9, 2, 7, 8, 3, 0, 9]
        self.assertEqual(answers(calls), [
            1, -11, 1, 0, 1, 0, 1, 0, 1, 23, 5, 23, 7, 0, 7, 0, 2, 39, 16,
            5, 7, 4, 1, 1, 1, 3, 23, 14, 9, 2, 24, 1, 2, 10, 5, 2, 1, 2])

    def test_the_later_calls_too(self):
        calls = [18, 16, 1, 9, 0, 2, 10, 5, 1, 2, 1, 0, 3, 1, 1, 4, 10, 10, 1, 11, 1, 0, 12, 10, 20, 13, 14, 15,
                 16, 2, 1, 1, 17, 18, 16, 0, 10, 7, 101, 11, 2, 0, 12, 0, 10001, 18]
        self.assertEqual(answers(calls), [
            1, -11, 1, -11, 1, 0, 1, 0, 1, 0, 1, 14, 2, 15, 23, 2, 38, 23, 1, 30, 1, 24, 1, 23,
            2, 25, 40, 6, 0, 7, 10, 5, 1, 2, 3, 2, 3, 4, 1, -22, 1, -22, 1, -2, 1, -22, 3, 2, 3, 4])

    def test_a_row_of_any_length_is_passed_over_whole(self):
        for size in range(21):
            row = [4] * size
            told = ask(cost(row), begin(1, 0, 0, 0, 0), cost(row), lies(row), need(0, 5), need(0, 6))
            fits = size == 2
            self.assertEqual(told, [[-11], [0], [0, 0] if fits else [-22], [4, 0, 4] if fits else [-22], [0], [5]])

    def test_a_row_of_needs_of_any_length_is_passed_over_whole(self):
        for size in range(11):
            row = [4] * size
            told = ask(together(row), begin(2, 0, 0, 0, 0), together(row), need(0, 5), together(row), need(0, 6))
            fits = [0, 0] if size == 2 else [-22]
            self.assertEqual(told, [[-11], [0], fits, [0], fits, [5]])

    def test_one_call_and_four_hundred(self):
        self.assertEqual(answers([4]), [1, -11])
        told = ask(begin(7, 100, 50, 1, 2), *[need(t, 10 * t) for t in range(7)], *[GREEDY] * 392)
        self.assertEqual(len(told), 400)
        self.assertEqual(told[8:], [told[8]] * 392)

    def test_what_is_handed_in_is_not_changed(self):
        calls = [number for call in OTHERS + [begin(1, 2, 3, 4, 5)] + OTHERS for number in call]
        held = Unchanging(calls)
        told = answers(held)
        self.assertEqual(list(held), calls)
        self.assertEqual(told, answers(copy.copy(calls)))

    def test_what_is_given_back_is_new_each_time(self):
        calls = begin(1, 2, 3, 4, 5) + need(0, 6) + PLAN
        first = answers(calls)
        kept = list(first)
        first.clear()
        self.assertEqual(answers(calls), kept)

    def test_nothing_is_kept_from_one_time_to_the_next(self):
        ask(begin(3, 1, 1, 1, 1), need(0, 7))
        self.assertEqual(ask(LEAST, need(0, 1), STATE, SUMS), [[-11]] * 4)
        calls = [begin(2, 9, 9, 1, 1), need(0, 7), would(1, 8), together([3, 4]), dear(1, 2), PLAN, SUMS, STATE]
        first = ask(*calls)
        ask(begin(7, 10000, 10000, 100, 100), need(6, 1000), together([1000] * 7))
        self.assertEqual(ask(*calls), first)

    def test_all_that_is_answered_is_whole_numbers(self):
        told = answers(sum(OTHERS + [begin(1, 2, 3, 4, 5)] + OTHERS, []))
        self.assertIs(type(told), list)
        self.assertEqual({type(number) for number in told}, {int})


class NotBegun(unittest.TestCase):
    def test_each_other_call_before_a_begin(self):
        for call in OTHERS:
            self.assertEqual(ask(call, call), [[-11], [-11]])

    def test_not_begun_is_ahead_of_all_other_refusals(self):
        for call in [need(HIGHEST, HIGHEST), need(0, 1001), fees(10001, 0), keeping(2, 1), cost([]), lies([]),
                     cost([HIGHEST] * 20), lies([HIGHEST] * 20), alone(10001, 101), would(HIGHEST, HIGHEST),
                     would(0, 1001), dear(10001, 10001), together([]), together([HIGHEST] * 10)]:
            self.assertEqual(ask(call), [[-11]])

    def test_a_refused_begin_is_no_begin(self):
        for call in OTHERS:
            self.assertEqual(ask(begin(0, 0, 0, 0, 0), call, begin(1, 0, 0, 0, 101), call), [[-22], [-11]] * 2)

    def test_what_was_asked_before_a_begin_leaves_nothing(self):
        told = ask(*OTHERS, begin(1, 2, 3, 4, 5), STATE, SUMS, need(0, 0), fees(0, 0), keeping(0, 0))
        self.assertEqual(told[-6:], [[0], [1, 0], [0, 0, 2, 3, 4, 5], [0], [2, 3], [4, 5]])


class RefusedChangesNothing(unittest.TestCase):
    refused = [
        (begin(0, 1, 1, 1, 1), -22), (begin(8, 1, 1, 1, 1), -22), (begin(1, 10001, 1, 1, 1), -22),
        (begin(1, 1, 10001, 1, 1), -22), (begin(1, 1, 1, 2, 1), -22), (begin(1, 1, 1, 1, 101), -22),
        (need(3, 5), -2), (need(HIGHEST, HIGHEST), -2), (need(1, 1001), -22),
        (fees(10001, 0), -22), (fees(0, 10001), -22), (keeping(2, 1), -22), (keeping(0, 101), -22),
        (cost([0] * 5), -22), (lies([0] * 7), -22), (cost([100001] * 6), -22), (cost([0] * 6), -12),
        (lies([0] * 6), -12), (alone(10001, 100), -22), (alone(10000, 101), -22), (would(3, 5), -2),
        (would(HIGHEST, HIGHEST), -2), (would(1, 1001), -22), (dear(10001, 0), -22), (dear(0, 10001), -22),
        (together([]), -22), (together([0, 0]), -22), (together([0] * 4), -22), (together([0, 1001, 0]), -22)]
    asking = [PLAN, LEAST, PARTS, GREEDY, cost([20, 0, 0, 9, 9, 2]), lies([20, 0, 0, 9, 9, 2]), alone(9, 1),
              would(1, 500), dear(2, 300), BOTH, DAILY, ONCE, together([7, 0, 70]), SUMS, STATE]
    after = asking + [need(0, 0), need(1, 0), need(2, 0), fees(0, 0), keeping(0, 0)]

    def test_each_refusal_alone_and_all_together(self):
        plain = ask_shop([4, 5, 6], (30, 20, 1, 2), *self.after)
        self.assertEqual(plain[-5:], [[4], [5], [6], [30, 20], [1, 2]])
        for call, number in self.refused:
            told = ask_shop([4, 5, 6], (30, 20, 1, 2), call, *self.after)
            self.assertEqual(told, [[number]] + plain, call)
        told = ask_shop([4, 5, 6], (30, 20, 1, 2), *[call for call, _ in self.refused], *self.after)
        self.assertEqual(told, [[number] for _, number in self.refused] + plain)

    def test_what_only_asks_changes_nothing(self):
        plain = ask_shop([4, 5, 6], (30, 20, 1, 2), *self.after)
        told = ask_shop([4, 5, 6], (30, 20, 1, 2), *self.asking, *self.after)
        self.assertEqual(told, plain[:len(self.asking)] + plain)


class Changes(unittest.TestCase):
    """Point 1: begin, need, fees, keeping."""

    def test_begin_at_its_bounds(self):
        for terms in [(1, 0, 0, 0, 0), (7, 10000, 10000, 100, 100), (1, 10000, 0, 0, 100), (7, 0, 10000, 50, 50)]:
            told = ask(begin(*terms), fees(0, 0), keeping(0, 0), PLAN)
            self.assertEqual(told, [[0], list(terms[1:3]), list(terms[3:]), [0] * (1 + 2 * terms[0])])

    def test_begin_beyond_its_bounds(self):
        for terms in [(0, 0, 0, 0, 0), (8, 0, 0, 0, 0), (HIGHEST, 0, 0, 0, 0), (1, 10001, 0, 0, 0),
                      (1, HIGHEST, 0, 0, 0), (1, 0, 10001, 0, 0), (1, 0, HIGHEST, 0, 0), (1, 0, 0, 1, 0),
                      (1, 0, 0, 51, 50), (1, 0, 0, 100, 99), (1, 0, 0, 0, 101), (1, 0, 0, 100, 101),
                      (1, 0, 0, 101, 101), (1, 0, 0, 101, 100), (1, 0, 0, HIGHEST, HIGHEST), (HIGHEST,) * 5]:
            self.assertEqual(ask(begin(*terms), LEAST), [[-22], [-11]], terms)

    def test_begin_begins_anew(self):
        told = ask_shop([4, 5, 6], (30, 20, 1, 2), begin(2, 7, 8, 3, 9), need(2, 1), need(0, 0), need(1, 0),
                        fees(0, 0), keeping(0, 0), begin(7, 1, 1, 1, 1), need(6, 1), need(7, 1), need(0, 0))
        self.assertEqual(told, [[0], [-2], [0], [0], [7, 8], [3, 9], [0], [0], [-2], [0]])

    def test_need_answers_how_many_were_needed(self):
        told = ask(begin(2, 0, 0, 0, 0), need(0, 3), need(0, 1000), need(0, 0), need(0, 0), need(1, 9), need(1, 2))
        self.assertEqual(told, [[0], [0], [3], [1000], [0], [0], [9]])

    def test_need_of_no_such_day(self):
        for days in range(1, 8):
            told = ask(begin(days, 0, 0, 0, 0), need(days - 1, 1), need(days, 1), need(HIGHEST, 0))
            self.assertEqual(told, [[0], [0], [-2], [-2]])

    def test_need_of_too_many(self):
        told = ask(begin(1, 0, 0, 0, 0), need(0, 1000), need(0, 1001), need(0, HIGHEST), need(0, 0))
        self.assertEqual(told, [[0], [0], [-22], [-22], [1000]])

    def test_no_such_day_is_told_ahead_of_too_many(self):
        self.assertEqual(ask_last(begin(1, 0, 0, 0, 0), need(1, 1001)), [-2])

    def test_fees_answer_what_they_were(self):
        told = ask(begin(1, 1, 2, 0, 0), fees(10000, 0), fees(0, 10000), fees(3, 4), fees(3, 4))
        self.assertEqual(told, [[0], [1, 2], [10000, 0], [0, 10000], [3, 4]])

    def test_fees_beyond_their_bounds(self):
        for pair in [(10001, 0), (0, 10001), (10001, 10001), (HIGHEST, 0), (0, HIGHEST)]:
            self.assertEqual(ask(begin(1, 1, 2, 0, 0), fees(*pair), fees(0, 0)), [[0], [-22], [1, 2]])

    def test_keeping_answers_what_it_was(self):
        told = ask(begin(1, 0, 0, 1, 2), keeping(100, 100), keeping(0, 100), keeping(0, 0), keeping(5, 5))
        self.assertEqual(told, [[0], [1, 2], [100, 100], [0, 100], [0, 0]])

    def test_keeping_beyond_its_bounds(self):
        for pair in [(1, 0), (6, 5), (100, 99), (0, 101), (101, 101), (101, 0), (HIGHEST, 0), (0, HIGHEST)]:
            self.assertEqual(ask(begin(1, 0, 0, 1, 2), keeping(*pair), keeping(0, 0)), [[0], [-22], [1, 2]])

    def test_fees_and_keeping_leave_the_rest(self):
        told = ask_shop([4, 5], (1, 2, 3, 4), fees(5, 6), keeping(7, 8), fees(0, 0), keeping(0, 0), need(0, 0),
                        need(1, 0))
        self.assertEqual(told, [[1, 2], [3, 4], [5, 6], [7, 8], [4], [5]])

    def test_what_is_changed_counts_at_once(self):
        told = ask(begin(1, 10, 5, 1, 2), LEAST, need(0, 3), LEAST, fees(100, 7), LEAST, need(0, 0), LEAST)
        self.assertEqual([row[0] for row in told[1::2]], [0, 15, 107, 0])
        told = ask_shop([1, 10], (50, 50, 0, 1), LEAST, keeping(1, 2), LEAST, keeping(10, 20), LEAST)
        self.assertEqual([row[0] for row in told[::2]], [110, 120, 200])


if __name__ == "__main__":
    unittest.main()
