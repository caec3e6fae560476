"""[1] and [3] to [6]: which lights may be a pair, what it costs, pairing, settles, sure, likely."""

import random
import unittest

from plain_search import (all_choices, best_choices, cost_of, in_all, in_some, some_cases,
                          some_lights)
from skypairs.pairing import likely, pairing, settles, sure

FULL = 2000000
WIDE = (200, 99, 0)
SIXTEEN = tuple((x * 10, 0, x) for x in range(16))


def least_cost(one, other, rule):
    """The least cost of as many pairs as can be, row by row over sets of columns as numbers."""
    best = {0: (0, 0)}
    for light in one:
        longer = dict(best)
        for taken, (fewer, cost) in best.items():
            for column, mate in enumerate(other):
                more = cost_of(light, mate, rule, (0, 0))
                if more is None or taken & 1 << column:
                    continue
                rank = (fewer - 1, cost + more)
                with_it = taken | 1 << column
                if with_it not in longer or rank < longer[with_it]:
                    longer[with_it] = rank
        best = longer
    fewer, cost = min(best.values())
    return -fewer, cost


class MayBeAPair(unittest.TestCase):
    def cost(self, light, mate, rule, slip=(0, 0)):
        """The cost that pairing tells of two lights, None if they are no pair."""
        pairs, cost, prices = pairing((light,), (mate,), rule, slip=slip)
        self.assertTrue(settles((light,), (mate,), rule, pairs, prices, slip=slip))
        self.assertEqual(sum(prices[0] + prices[1]), FULL - cost if pairs else 0)
        if pairs:
            self.assertEqual(pairs, ((0, 0),))
            return cost
        self.assertEqual(cost, 0)
        return None

    def test_reach(self):
        self.assertEqual(self.cost((0, 0, 0), (3, 4, 0), (5, 0, 0)), 25)
        self.assertIsNone(self.cost((0, 0, 0), (3, 4, 0), (4, 0, 0)))
        self.assertIsNone(self.cost((0, 0, 0), (4, 4, 0), (5, 0, 0)))
        self.assertIsNone(self.cost((0, 0, 0), (5, 1, 0), (5, 0, 0)))
        self.assertEqual(self.cost((-2, 1, 0), (-5, 5, 0), (5, 0, 0)), 25)

    def test_lowest_and_highest_reach(self):
        self.assertEqual(self.cost((7, 7, 0), (7, 7, 0), (0, 0, 0)), 0)
        self.assertIsNone(self.cost((7, 7, 0), (7, 8, 0), (0, 99, 0)))
        self.assertEqual(self.cost((-999, 0, 0), (-799, 0, 0), (200, 0, 0)), 40000)
        self.assertIsNone(self.cost((-999, 0, 0), (-798, 0, 0), (200, 99, 0)))
        self.assertEqual(self.cost((0, 0, 0), (120, -160, 0), (200, 0, 0)), 40000)

    def test_dim(self):
        self.assertEqual(self.cost((0, 0, 10), (0, 0, 13), (0, 3, 0)), 0)
        self.assertEqual(self.cost((0, 0, 13), (0, 0, 10), (0, 3, 0)), 0)
        self.assertIsNone(self.cost((0, 0, 10), (0, 0, 14), (0, 3, 0)))
        self.assertIsNone(self.cost((0, 0, 14), (0, 0, 10), (0, 3, 0)))
        self.assertIsNone(self.cost((0, 0, 0), (0, 0, 1), (200, 0, 0)))
        self.assertEqual(self.cost((0, 0, 0), (0, 0, 99), (0, 99, 0)), 0)

    def test_near(self):
        self.assertEqual(self.cost((0, 0, 10), (1, 0, 13), (1, 3, 7)), 1 + 21)
        self.assertEqual(self.cost((0, 0, 13), (1, 0, 10), (1, 3, 7)), 1 + 21)
        self.assertEqual(self.cost((0, 0, 99), (0, 200, 0), (200, 99, 99)), 40000 + 99 * 99)

    def test_slip_moves_the_second_list(self):
        self.assertEqual(self.cost((5, 7, 0), (1, 1, 0), (0, 0, 0), (4, 6)), 0)
        self.assertIsNone(self.cost((1, 1, 0), (5, 7, 0), (0, 0, 0), (4, 6)))
        self.assertEqual(self.cost((1, 1, 0), (5, 7, 0), (0, 0, 0), (-4, -6)), 0)
        self.assertEqual(self.cost((0, 0, 0), (-999, 999, 0), (0, 0, 0), (999, -999)), 0)

    def test_slip_may_lead_beyond_where_lights_stand(self):
        self.assertEqual(self.cost((999, 0, 0), (999, 0, 0), (5, 0, 0), (3, 4)), 25)
        self.assertIsNone(self.cost((-999, 0, 0), (999, 0, 0), (200, 0, 0), (999, 0)))


class Pairing(unittest.TestCase):
    def test_nothing_to_pair(self):
        self.assertEqual(pairing((), (), (0, 0, 0)), ((), 0, ((), ())))
        self.assertEqual(pairing(SIXTEEN[:2], (), WIDE), ((), 0, ((0, 0), ())))
        self.assertEqual(pairing((), SIXTEEN[:2], WIDE), ((), 0, ((), (0, 0))))
        far = ((900, 900, 0),)
        self.assertEqual(pairing(SIXTEEN[:2], far, WIDE), ((), 0, ((0, 0), (0,))))

    def test_most_pairs_go_ahead_of_cost(self):
        # The first with the first costs nothing, but then nothing is left for the second.
        one = ((0, 0, 0), (-100, 0, 0))
        other = ((0, 0, 0), (150, 0, 0))
        pairs, cost, _ = pairing(one, other, (150, 0, 0))
        self.assertEqual((pairs, cost), (((0, 1), (1, 0)), 150 * 150 + 100 * 100))

    def test_least_cost_of_as_many(self):
        one = ((0, 0, 0), (2, 0, 0))
        other = ((3, 0, 0), (1, 0, 0))
        pairs, cost, _ = pairing(one, other, WIDE)
        self.assertEqual((pairs, cost), (((0, 1), (1, 0)), 2))

    def test_pairs_rise(self):
        other = tuple(reversed(SIXTEEN))
        pairs, cost, _ = pairing(SIXTEEN, other, WIDE)
        self.assertEqual(pairs, tuple((k, 15 - k) for k in range(16)))
        self.assertEqual(cost, 0)

    def test_slip(self):
        other = tuple((x - 3, 4, glow) for x, _, glow in SIXTEEN)
        slipped = pairing(SIXTEEN, other, (0, 0, 0), slip=(3, -4))
        self.assertEqual(slipped[:2], (tuple((k, k) for k in range(16)), 0))
        self.assertEqual(pairing(SIXTEEN, other, (0, 0, 0))[:2], ((), 0))

    def test_against_a_plain_search(self):
        for one, other, rule in some_cases(seed=4, times=400, most=5):
            for slip in ((0, 0), (-1, 2)):
                with self.subTest(one=one, other=other, rule=rule, slip=slip):
                    choices, most, least = best_choices(one, other, rule, slip)
                    pairs, cost, prices = pairing(one, other, rule, slip=slip)
                    self.assertIn(pairs, choices)
                    self.assertEqual((len(pairs), cost), (most, least))
                    self.assertIs(settles(one, other, rule, pairs, prices, slip=slip), True)
                    self.assertEqual(sure(one, other, rule, slip=slip), in_all(choices))
                    self.assertEqual(likely(one, other, rule, slip=slip), in_some(choices))

    def test_its_prices_show_all_best_choices_and_no_others(self):
        for one, other, rule in some_cases(seed=40, times=60, most=4):
            best, _, _ = best_choices(one, other, rule)
            prices = pairing(one, other, rule)[2]
            for pairs, _ in all_choices(one, other, rule):
                told = settles(one, other, rule, pairs, prices)
                self.assertEqual(told, pairs in best)

    def test_long_lists(self):
        chance = random.Random(16)
        for span, glows, rule in ((3, 0, WIDE), (3, 5, (3, 2, 3)), (90, 99, (80, 60, 9))):
            for many in (7, 16):
                one = some_lights(chance, many, span, glows)
                other = some_lights(chance, 9, span, glows)
                for first, second in ((one, other), (other, one)):
                    pairs, cost, prices = pairing(first, second, rule)
                    self.assertTrue(settles(first, second, rule, pairs, prices))
                    self.assertEqual((len(pairs), cost), least_cost(one, other, rule))

    def test_sixteen_and_sixteen_settle(self):
        chance = random.Random(61)
        for span, rule in ((2, WIDE), (3, (2, 3, 1)), (60, WIDE), (999, WIDE)):
            one = some_lights(chance, 16, span, 9)
            other = some_lights(chance, 16, span, 9)
            pairs, cost, prices = pairing(one, other, rule)
            self.assertTrue(settles(one, other, rule, pairs, prices))
            self.assertEqual(cost, sum(cost_of(one[k], other[n], rule, (0, 0)) for k, n in pairs))

    def test_kinds_of_values(self):
        for one, other, rule in some_cases(seed=44, times=30, most=4):
            told = pairing(one, other, rule)
            self.assertIs(type(told), tuple)
            pairs, cost, prices = told
            self.assertEqual([type(part) for part in (pairs, cost, prices)], [tuple, int, tuple])
            self.assertEqual([type(part) for part in prices], [tuple, tuple])
            self.assertEqual([len(part) for part in prices], [len(one), len(other)])
            for pair in pairs:
                self.assertEqual([type(pair), len(pair)], [tuple, 2])
            for number in prices[0] + prices[1] + sum(pairs, ()):
                self.assertIs(type(number), int)

    def test_by_name(self):
        for door in (pairing, sure, likely):
            door(one=(), other=(), rule=WIDE, slip=(1, 1))
            with self.assertRaises(TypeError):
                door((), (), WIDE, (0, 0))
        settles(one=(), other=(), rule=WIDE, pairs=(), prices=(), slip=(1, 1))
        with self.assertRaises(TypeError):
            settles((), (), WIDE, (), (), (0, 0))


class Settles(unittest.TestCase):
    one = ((0, 0, 0), (10, 0, 0))
    other = ((10, 0, 0), (0, 0, 0), (50, 0, 0))
    rule = (10, 0, 0)
    pairs = ((0, 1), (1, 0))
    prices = ((FULL, FULL), (0, 0, 0))

    def told(self, pairs, prices):
        told = settles(self.one, self.other, self.rule, pairs, prices)
        self.assertIs(type(told), bool)
        return told

    def test_shown(self):
        self.assertTrue(self.told(self.pairs, self.prices))
        self.assertTrue(self.told(self.pairs, ((0, 0), (FULL, FULL, 0))))
        self.assertFalse(self.told(self.pairs, ((0, FULL), (0, FULL, 0))))
        self.assertTrue(self.told(self.pairs, ((FULL - 60, FULL - 30), (30, 60, 0))))

    def test_pairs_in_any_turn_are_a_choice(self):
        self.assertTrue(self.told(((1, 0), (0, 1)), self.prices))

    def test_no_choice(self):
        wrong = (
            None, True, 5, 1.5, "", "ab", [], [(0, 1), (1, 0)], ([0, 1], [1, 0]), ((0, 1), [1, 0]),
            ((0, 1), (1, 0), (1, 0)), ((0, 1), (0, 0)), ((0, 1), (1, 1)), ((0, 1), (1,)),
            ((0, 1), (1, 0, 0)), ((0, 1), (-1, 0)), ((0, 1), (2, 0)), ((0, 1), (1, 3)),
            ((0, 1), (1, -3)), ((0, 1), (1, False)), ((False, 1), (1, 0)), ((0, True), (1, 0)),
            ((0, 1), (True, 0)), ((0, 1), (1, 0.0)), ((0, 1), (1, None)), ((0, 1), None),
            ((0, 1), "10"), ((0, 1), (1, (0,))), ((0, 1), (1, [])), ((0, 1), 1),
        )
        for pairs in wrong:
            with self.subTest(pairs=pairs):
                self.assertFalse(self.told(pairs, self.prices))

    def test_a_light_in_two_pairs(self):
        # The prices come to just what the two pairs are worth, and to no less than each.
        between, two = ((0, 0, 0),), ((1, 0, 0), (-1, 0, 0))
        worth = FULL - 1
        for prices in (((worth,), (worth, 0)), ((worth,), (0, worth)), ((0,), (worth, worth))):
            self.assertFalse(settles(between, two, self.rule, ((0, 0), (0, 1)), prices))
            prices = prices[::-1]
            self.assertFalse(settles(two, between, self.rule, ((0, 0), (1, 0)), prices))
        self.assertTrue(settles(between, two, self.rule, ((0, 0),), ((worth,), (0, 0))))

    def test_a_pair_that_may_not_be(self):
        self.assertFalse(self.told(((0, 2), (1, 0)), self.prices))
        # With a pair of no worth added, all sums are as before.
        self.assertFalse(settles(self.one, self.other, (0, 0, 0), self.pairs + ((1, 2),), self.prices))
        far = ((0, 0, 0),), ((50, 0, 0),)
        self.assertFalse(settles(*far, self.rule, ((0, 0),), ((0,), (0,))))
        self.assertTrue(settles(*far, self.rule, (), ((0,), (0,))))

    def test_no_prices(self):
        ones, others = self.prices
        wrong = (
            None, True, 5, 1.5, "ab", [], (), (ones,), (ones, others, ()), [ones, others],
            (list(ones), others), (ones, list(others)), (ones, None), (None, others),
            (ones[:1], others), (ones + (0,), others), (ones, others[:2]), (ones, others + (0,)),
            ((FULL, FULL + 1), (-1, 0, 0)), ((FULL, FULL - 1), (True, 0, 0)),
            (ones, (0, False, 0)), ((float(FULL), FULL), others), (ones, (0, None, 0)),
            (ones, (0, "0", 0)), (ones, (0, (), 0)), (others, ones),
        )
        for prices in wrong:
            with self.subTest(prices=prices):
                self.assertFalse(self.told(self.pairs, prices))

    def test_prices_below_a_worth(self):
        # The sum is right, but one pair's prices come to one less than its worth.
        self.assertFalse(self.told(self.pairs, ((FULL - 1, FULL), (1, 0, 0))))
        self.assertFalse(self.told(self.pairs, ((FULL - 1, FULL), (0, 0, 1))))
        self.assertFalse(self.told(self.pairs, ((FULL - 101, FULL), (0, 101, 0))))
        self.assertTrue(self.told(self.pairs, ((FULL - 100, FULL), (0, 100, 0))))

    def test_prices_of_another_sum(self):
        self.assertFalse(self.told(self.pairs, ((FULL, FULL), (0, 0, 1))))
        self.assertFalse(self.told(self.pairs, ((FULL, FULL), (1, 0, 0))))

    def test_choices_that_are_not_best(self):
        for pairs in ((), ((0, 1),), ((1, 0),), ((0, 0),)):
            self.assertFalse(self.told(pairs, self.prices))
        crossed = ((0, 0), (1, 1))
        self.assertFalse(self.told(crossed, self.prices))
        self.assertFalse(self.told(crossed, ((FULL - 100, FULL - 100), (0, 0, 0))))

    def test_slip_counts(self):
        one, other = ((0, 0, 0),), ((3, 4, 0),)
        shown = (((0, 0),), ((FULL,), (0,)))
        self.assertFalse(settles(one, other, (5, 0, 0), *shown))
        self.assertTrue(settles(one, other, (5, 0, 0), *shown, slip=(-3, -4)))

    def test_nothing_handed_in_is_changed(self):
        pairs, prices = [(1, 0), (0, 1)], [[FULL, FULL], [0, 0, 0]]
        self.assertFalse(self.told(pairs, prices))
        self.assertEqual((pairs, prices), ([(1, 0), (0, 1)], [[FULL, FULL], [0, 0, 0]]))


class SureAndLikely(unittest.TestCase):
    def test_one_best_choice(self):
        other = tuple(reversed(SIXTEEN))
        pairs = [(k, 15 - k) for k in range(16)]
        self.assertEqual(sure(SIXTEEN, other, WIDE), pairs)
        self.assertEqual(likely(SIXTEEN, other, WIDE), pairs)

    def test_none(self):
        for one, other in (((), ()), (SIXTEEN, ()), ((), SIXTEEN), (SIXTEEN, ((900, 9, 9),))):
            self.assertEqual(sure(one, other, WIDE), [])
            self.assertEqual(likely(one, other, WIDE), [])

    def test_one_light_between_two(self):
        two = ((-1, 0, 0), (1, 0, 0))
        between = ((0, 0, 0),)
        self.assertEqual(sure(two, between, WIDE), [])
        self.assertEqual(likely(two, between, WIDE), [(0, 0), (1, 0)])
        self.assertEqual(sure(between, two, WIDE), [])
        self.assertEqual(likely(between, two, WIDE), [(0, 0), (0, 1)])

    def test_two_rounds_of_one_cost(self):
        one = ((0, 0, 0), (1, 1, 0), (40, 40, 0))
        other = ((0, 1, 0), (1, 0, 0), (40, 41, 0))
        self.assertEqual(sure(one, other, (2, 0, 0)), [(2, 2)])
        round_pairs = [(0, 0), (0, 1), (1, 0), (1, 1), (2, 2)]
        self.assertEqual(likely(one, other, (2, 0, 0)), round_pairs)

    def test_a_pair_that_may_be_but_costs_more(self):
        one = ((0, 0, 0), (10, 0, 0))
        other = ((1, 0, 0), (12, 0, 0))
        self.assertEqual(likely(one, other, WIDE), [(0, 0), (1, 1)])

    def test_slip(self):
        one, other = ((0, 0, 0),), ((9, 0, 0), (-9, 0, 0))
        self.assertEqual(likely(one, other, WIDE), [(0, 0), (0, 1)])
        for door in (sure, likely):
            self.assertEqual(door(one, other, WIDE, slip=(1, 0)), [(0, 1)])
            self.assertEqual(door(one, other, WIDE, slip=(-1, 0)), [(0, 0)])

    def test_sixteen_of_one_glow_in_a_square(self):
        square = tuple((x, y, 0) for x in range(4) for y in range(4))
        self.assertEqual(sure(square, square, WIDE), [(k, k) for k in range(16)])
        # Those at the edge have one mate only, so each has its own at a cost of 1.
        aside = sure(square, square, (1, 0, 0), slip=(1, 0))
        self.assertEqual(aside, [(k, k) for k in range(16)])
        below = [(k, k - 4) for k in range(4, 16)]
        self.assertEqual(sure(square, square, (0, 0, 0), slip=(1, 0)), below)

    def test_what_is_told_may_be_changed(self):
        for door in (sure, likely):
            told = door(SIXTEEN, SIXTEEN, WIDE)
            self.assertIs(type(told), list)
            self.assertIs(type(told[0]), tuple)
            kept = list(told)
            told.clear()
            self.assertEqual(door(SIXTEEN, SIXTEEN, WIDE), kept)

    def test_asked_again_the_same_is_told(self):
        for one, other, rule in some_cases(seed=6, times=20, most=5):
            for door in (pairing, sure, likely):
                self.assertEqual(door(one, other, rule), door(one, other, rule))


if __name__ == "__main__":
    unittest.main()
