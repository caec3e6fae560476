"""[10]: groups, blends and matched; [1] to [3] as far as they speak of these."""

import random
import unittest

from plain_search import all_blends, all_groups, best_choices, some_lights
from skypairs.blends import blends, groups, matched
from skypairs.errors import BadCount, BadRule
from skypairs.pairing import pairing
from wrong_things import GOOD, NO_LIGHTS, NO_RULES, RULE, SIXTEEN, Refusing, not_from

WIDE = (200, 99, 0)
# Eight in a ring, each near the next at 8, and one amid them that is near none.
RING = ((10, 0, 1), (7, 7, 1), (0, 10, 1), (-7, 7, 1), (-10, 0, 1), (-7, -7, 1), (0, -10, 1),
        (7, -7, 1), (0, 0, 3))


def some_lists(seed, times, most=9):
    chance = random.Random(seed)
    for _ in range(times):
        span, glows = chance.choice((2, 4, 9, 40)), chance.choice((0, 1, 20, 99))
        yield some_lights(chance, chance.randint(0, most), span, glows), chance.randint(0, 12)


class Groups(unittest.TestCase):
    def test_near(self):
        lights = ((0, 0, 0), (3, 4, 99))
        self.assertEqual(groups(lights, 5), [(0, 1)])
        self.assertEqual(groups(lights, 4), [(0,), (1,)])
        self.assertEqual(groups(((-3, 0, 0), (0, 4, 0)), 5), [(0, 1)])
        self.assertEqual(groups(((0, 0, 0), (5, 1, 0)), 5), [(0,), (1,)])

    def test_near_at_its_bounds(self):
        self.assertEqual(groups(((0, 0, 0), (0, 1, 0)), 0), [(0,), (1,)])
        self.assertEqual(groups(((0, 0, 0), (120, 160, 0)), 200), [(0, 1)])
        self.assertEqual(groups(((0, 0, 0), (120, 161, 0)), 200), [(0,), (1,)])
        self.assertEqual(groups(((-999, 0, 0), (-798, 0, 0)), 200), [(0,), (1,)])

    def test_from_one_to_the_next(self):
        lights = tuple((10 * x, 0, 0) for x in range(16))
        self.assertEqual(groups(lights, 10), [tuple(range(16))])
        self.assertEqual(groups(lights, 9), [(x,) for x in range(16)])
        self.assertEqual(groups(RING, 8), [tuple(range(8)), (8,)])

    def test_rising(self):
        lights = ((100, 0, 0), (0, 0, 0), (50, 0, 0), (1, 0, 0), (101, 0, 0), (2, 0, 0), (99, 0, 0))
        self.assertEqual(groups(lights, 1), [(0, 4, 6), (1, 3, 5), (2,)])
        # The first light hangs together with the second by the last one only.
        self.assertEqual(groups(((0, 0, 0), (2, 0, 0), (1, 0, 0)), 1), [(0, 1, 2)])

    def test_none_and_one(self):
        self.assertEqual(groups((), 200), [])
        self.assertEqual(groups(((5, 5, 5),), 0), [(0,)])

    def test_against_a_plain_search(self):
        for lights, near in some_lists(seed=10, times=300, most=16):
            with self.subTest(lights=lights, near=near):
                self.assertEqual(groups(lights, near), all_groups(lights, near))


class Blends(unittest.TestCase):
    def one_blend(self, *lights):
        ((light, numbers),) = blends(lights, 200)
        self.assertEqual(numbers, tuple(range(len(lights))))
        return light

    def test_places_by_glows(self):
        self.assertEqual(self.one_blend((0, 0, 1), (10, 20, 4)), (8, 16, 5))
        self.assertEqual(self.one_blend((0, 0, 4), (10, 20, 1)), (2, 4, 5))
        self.assertEqual(self.one_blend((0, 0, 0), (10, 20, 1)), (10, 20, 1))
        self.assertEqual(self.one_blend((7, -7, 30)), (7, -7, 30))

    def test_rounded_down(self):
        self.assertEqual(self.one_blend((0, 0, 1), (1, 3, 1)), (0, 1, 2))
        self.assertEqual(self.one_blend((0, 0, 1), (-1, -3, 1)), (-1, -2, 2))
        self.assertEqual(self.one_blend((0, 0, 2), (-1, -4, 1)), (-1, -2, 3))
        self.assertEqual(self.one_blend((-5, -5, 1), (-5, -6, 2)), (-5, -6, 3))

    def test_all_glows_none(self):
        self.assertEqual(self.one_blend((0, 0, 0), (10, -1, 0), (1, 0, 0)), (3, -1, 0))
        self.assertEqual(self.one_blend((-7, 8, 0)), (-7, 8, 0))

    def test_glows_above_99(self):
        self.assertEqual(self.one_blend((0, 0, 99), (1, 0, 0)), (0, 0, 99))
        self.assertEqual(self.one_blend((0, 0, 50), (9, 0, 49)), (4, 0, 99))
        self.assertEqual(self.one_blend((0, 0, 50), (0, 9, 50)), (0, 4, 99))
        # The place is still by the whole sum: 99 * 100 by 198, not by 99.
        self.assertEqual(self.one_blend((0, 0, 99), (100, -100, 99)), (50, -50, 99))
        lights = tuple((x, -x, 99) for x in range(16))
        self.assertEqual(self.one_blend(*lights), (7, -8, 99))

    def test_each_group_by_itself(self):
        lights = ((100, 0, 9), (0, 0, 0), (102, 0, 9), (1, 0, 0), (50, 50, 7))
        self.assertEqual(blends(lights, 2), [
            ((101, 0, 18), (0, 2)), ((0, 0, 0), (1, 3)), ((50, 50, 7), (4,)),
        ])

    def test_two_at_one_place(self):
        self.assertEqual(blends(RING, 8), [((0, 0, 8), tuple(range(8))), ((0, 0, 3), (8,))])

    def test_none_and_all_apart(self):
        self.assertEqual(blends((), 200), [])
        self.assertEqual(blends(SIXTEEN, 0), [(SIXTEEN[k], (k,)) for k in range(16)])

    def test_against_a_plain_search(self):
        for lights, near in some_lists(seed=11, times=300, most=16):
            with self.subTest(lights=lights, near=near):
                told = blends(lights, near)
                self.assertEqual(told, all_blends(lights, near))
                self.assertEqual([numbers for _, numbers in told], groups(lights, near))


class Matched(unittest.TestCase):
    def test_pairs_with_the_blends_numbers(self):
        coarse = ((100, 0, 9), (0, 0, 20))
        fine = ((1, 0, 10), (500, 0, 0), (-1, 0, 10), (101, 0, 9))
        self.assertEqual(matched(coarse, fine, 2, (5, 0, 0)), ([(0, (3,)), (1, (0, 2))], 1))

    def test_blends_glows_count(self):
        coarse, fine = ((0, 0, 99),), ((0, 0, 60), (0, 1, 60))
        self.assertEqual(matched(coarse, fine, 1, (0, 0, 0)), ([(0, (0, 1))], 0))
        self.assertEqual(matched(((0, 0, 98),), fine, 1, (0, 0, 9)), ([], 0))
        self.assertEqual(matched(((0, 0, 98),), fine, 1, (0, 1, 9)), ([(0, (0, 1))], 9))
        self.assertEqual(matched(coarse, fine, 0, (0, 39, 2)), ([(0, (0,))], 78))

    def test_blends_at_one_place(self):
        coarse = ((0, 0, 3), (1, 0, 8))
        self.assertEqual(matched(coarse, RING, 8, (5, 0, 0)), ([(0, (8,)), (1, tuple(range(8)))], 1))
        self.assertEqual(matched(coarse[:1], RING, 8, (0, 5, 2)), ([(0, (8,))], 0))

    def test_most_pairs_then_least_cost(self):
        coarse = ((0, 0, 0), (10, 0, 0))
        fine = ((11, 0, 0), (10, 1, 0), (20, 0, 0))
        self.assertEqual(matched(coarse, fine, 0, (12, 0, 0)), ([(0, (1,)), (1, (0,))], 102))
        self.assertEqual(matched(coarse, fine[:1], 0, (12, 0, 0)), ([(1, (0,))], 1))

    def test_none(self):
        for coarse, fine in (((), ()), (GOOD, ()), ((), GOOD), (GOOD, ((900, 0, 0),))):
            self.assertEqual(matched(coarse, fine, 5, WIDE), ([], 0))

    def test_no_nearness_is_plain_pairing(self):
        chance = random.Random(12)
        one, other = some_lights(chance, 16, 30, 9), some_lights(chance, 16, 30, 9)
        told, cost = matched(one, other, 0, (9, 4, 2))
        pairs, least, _ = pairing(one, other, (9, 4, 2))
        self.assertEqual((len(told), cost), (len(pairs), least))
        self.assertTrue(all(len(numbers) == 1 for _, numbers in told))

    def test_against_a_plain_search(self):
        chance = random.Random(13)
        for fine, near in some_lists(seed=14, times=150, most=6):
            coarse = some_lights(chance, chance.randint(0, 4), chance.choice((2, 9)), 20)
            rule = (chance.randint(0, 12), chance.choice((3, 20, 99)), chance.randint(0, 3))
            with self.subTest(coarse=coarse, fine=fine, near=near, rule=rule):
                blended = all_blends(fine, near)
                best, most, least = best_choices(coarse, [light for light, _ in blended], rule)
                told, cost = matched(coarse, fine, near, rule)
                self.assertEqual((len(told), cost), (most, least))
                self.assertEqual(told, sorted(told))
                found = [numbers for _, numbers in blended]
                self.assertIn(tuple((one, found.index(numbers)) for one, numbers in told), best)
                self.assertEqual(matched(coarse, fine, near, rule), (told, cost))


class KindsOfValues(unittest.TestCase):
    def test_kinds(self):
        told = groups(RING, 8)
        self.assertEqual([type(thing) for thing in (told, told[0], told[0][0])], [list, tuple, int])
        told = blends(RING, 8)
        self.assertEqual([type(thing) for thing in (told, told[0], *told[0])],
                         [list, tuple, tuple, tuple])
        self.assertEqual([type(number) for number in told[0][0]], [int, int, int])
        told = matched(RING, RING, 8, WIDE)
        self.assertEqual([type(thing) for thing in (told, *told, *told[0][0])],
                         [tuple, list, int, int, tuple])

    def test_what_is_told_may_be_changed(self):
        for ask in (lambda: groups(RING, 8), lambda: blends(RING, 8),
                    lambda: matched(RING, RING, 8, WIDE)[0]):
            told = ask()
            kept = list(told)
            self.assertTrue(kept)
            told.clear()
            self.assertEqual(ask(), kept)

    def test_by_name(self):
        groups(lights=GOOD, near=5)
        blends(lights=GOOD, near=5)
        matched(coarse=GOOD, fine=GOOD, near=5, rule=RULE)


class Refusals(Refusing, unittest.TestCase):
    def test_lights(self):
        for things, number in NO_LIGHTS:
            with self.subTest(things=things):
                self.bad_lights(number, groups, things, 5)
                self.bad_lights(number, blends, things, 5)
                self.bad_lights(number, matched, things, GOOD, 5, RULE)
                self.bad_lights(number, matched, GOOD, things, 5, RULE)

    def test_near(self):
        for thing in not_from(0, 200):
            with self.subTest(thing=thing):
                for lights in ((), GOOD):
                    self.refused(BadCount, groups, lights, thing)
                    self.refused(BadCount, blends, lights, thing)
                    self.refused(BadCount, matched, lights, lights, thing, RULE)
        for near in (0, 200):
            matched(SIXTEEN, SIXTEEN, near, RULE)

    def test_rule(self):
        for thing in NO_RULES:
            with self.subTest(thing=thing):
                self.refused(BadRule, matched, GOOD, GOOD, 5, thing)
                self.refused(BadRule, matched, (), (), 5, thing)

    def test_what_is_handed_in_first_is_refused_first(self):
        third = GOOD + (None,)
        for door in (groups, blends):
            self.bad_lights(2, door, third, None)
        self.bad_lights(2, matched, third, None, None, None)
        self.bad_lights(2, matched, GOOD, third, None, None)
        self.bad_lights(2, matched, GOOD, third, 201, RULE)
        self.refused(BadCount, matched, GOOD, GOOD, None, None)


if __name__ == "__main__":
    unittest.main()
