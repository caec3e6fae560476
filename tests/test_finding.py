"""[7]: turned and sought."""

import random
import unittest

from plain_search import best_turn_and_slip, some_cases, some_lights, turn_all
from skypairs.finding import sought, turned
from skypairs.pairing import pairing

WIDE = (200, 99, 0)
ALL_TURNS = tuple(range(8))
BENT = ((0, 0, 0), (10, 0, 0), (20, 0, 0), (20, 7, 0))


class Turned(unittest.TestCase):
    def test_each_turn(self):
        lights = ((3, -7, 5), (-999, 0, 0), (999, 999, 99))
        places = (
            ((3, -7), (-999, 0), (999, 999)),
            ((7, 3), (0, -999), (-999, 999)),
            ((-3, 7), (999, 0), (-999, -999)),
            ((-7, -3), (0, 999), (999, -999)),
            ((-3, -7), (999, 0), (-999, 999)),
            ((-7, 3), (0, -999), (999, 999)),
            ((3, 7), (-999, 0), (999, -999)),
            ((7, -3), (0, 999), (-999, -999)),
        )
        for turn, (first, second, third) in enumerate(places):
            told = turned(lights, turn)
            self.assertEqual(told, (first + (5,), second + (0,), third + (99,)))

    def test_kinds_of_values(self):
        told = turned(BENT, 5)
        self.assertIs(type(told), tuple)
        for light in told:
            self.assertIs(type(light), tuple)
            self.assertEqual([type(number) for number in light], [int, int, int])

    def test_no_lights_and_sixteen(self):
        sixteen = tuple((x, 2 * x, x) for x in range(16))
        for turn in ALL_TURNS:
            self.assertEqual(turned((), turn), ())
            self.assertEqual(turned(sixteen, turn), turn_all(sixteen, turn))

    def test_by_name(self):
        self.assertEqual(turned(lights=((1, 2, 3),), turn=2), ((-1, -2, 3),))


class Sought(unittest.TestCase):
    def test_a_slip_is_found(self):
        other = tuple((x + 2, y - 1, glow) for x, y, glow in BENT)
        self.assertEqual(sought(BENT, other, (0, 0, 0)), (0, (-2, 1), 4, 0))

    def test_a_turn_is_found(self):
        back = {0: 0, 1: 3, 2: 2, 3: 1, 4: 4, 5: 5, 6: 6, 7: 7}
        for turn in ALL_TURNS:
            other = turned(BENT, turn)
            told = sought(BENT, other, (0, 0, 0), turns=ALL_TURNS)
            self.assertEqual(told, (back[turn], (0, 0), 4, 0))

    def test_the_slip_comes_after_the_turn(self):
        other = ((0, 0, 0), (0, 10, 0), (0, 20, 0), (7, 20, 0))
        further = tuple((x + 1, y + 2, glow) for x, y, glow in other)
        # Turned by 5 (y, x), they stand at 2, 1 further.
        self.assertEqual(sought(BENT, further, (0, 0, 0), turns=(5,)), (5, (-2, -1), 4, 0))

    def test_most_pairs_go_ahead_of_cost(self):
        one = ((0, 0, 0), (200, 0, 0))
        other = ((0, 0, 0), (202, 0, 0))
        self.assertEqual(sought(one, other, (1, 0, 0), far=1), (0, (-1, 0), 2, 2))
        self.assertEqual(sought(one, other, (1, 0, 0), far=0), (0, (0, 0), 1, 0))

    def test_least_cost_of_as_many(self):
        one, other = ((0, 0, 0),), ((3, 0, 0),)
        self.assertEqual(sought(one, other, WIDE), (0, (-2, 0), 1, 1))
        self.assertEqual(sought(one, other, WIDE, far=3), (0, (-3, 0), 1, 0))

    def test_turns_go_in_the_order_handed_in(self):
        one = other = ((0, 0, 0),)
        for turns in ((0, 1, 2), (7, 0), (3, 3, 1), (5,), tuple(reversed(ALL_TURNS))):
            self.assertEqual(sought(one, other, (0, 0, 0), turns=turns), (turns[0], (0, 0), 1, 0))

    def test_a_better_turn_goes_ahead_of_an_earlier_one(self):
        one, other = ((5, 0, 0),), ((-5, 0, 0),)
        self.assertEqual(sought(one, other, WIDE, far=0, turns=(0, 1, 2, 4)), (2, (0, 0), 1, 0))
        self.assertEqual(sought(one, other, WIDE, far=0, turns=(4, 1, 2, 0)), (4, (0, 0), 1, 0))

    def test_an_earlier_turn_goes_ahead_of_a_shorter_slip(self):
        one, other = ((1, 0, 0),), ((0, 1, 0),)
        self.assertEqual(sought(one, other, (0, 0, 0), turns=(0, 3)), (0, (1, -1), 1, 0))
        self.assertEqual(sought(one, other, (0, 0, 0), turns=(3, 0)), (3, (0, 0), 1, 0))

    def test_slips_of_the_least_amounts_then_as_tuples(self):
        # Each of the two can be met at no cost, not both at once.
        first = ((0, 0, 0),)
        self.assertEqual(sought(first, ((1, 1, 0), (-2, 0, 0)), (0, 0, 0)), (0, (-1, -1), 1, 0))
        self.assertEqual(sought(first, ((-1, 1, 0), (1, 1, 0)), (0, 0, 0)), (0, (-1, -1), 1, 0))
        self.assertEqual(sought(first, ((0, 2, 0), (1, 0, 0)), (0, 0, 0)), (0, (-1, 0), 1, 0))
        self.assertEqual(sought(first, ((0, -1, 0), (0, 1, 0)), (0, 0, 0)), (0, (0, -1), 1, 0))
        self.assertEqual(sought(first, ((0, -1, 0), (2, 2, 0)), (0, 0, 0)), (0, (0, 1), 1, 0))
        self.assertEqual(sought(first, ((2, 1, 0), (0, -3, 0)), (0, 0, 0), far=3), (0, (-2, -1), 1, 0))
        self.assertEqual(sought(first, ((1, -1, 0), (-1, 1, 0)), (0, 0, 0)), (0, (-1, 1), 1, 0))
        self.assertEqual(sought(first, ((0, -2, 0), (-1, -1, 0)), (0, 0, 0)), (0, (0, 2), 1, 0))
        self.assertEqual(sought(first, ((-3, 0, 0), (-2, -2, 0)), (0, 0, 0), far=3), (0, (3, 0), 1, 0))

    def test_all_slips_of_one_cost_go_in_turn(self):
        # One light more each time is met by a slip, from the last slip to the first.
        slips = sorted((abs(x) + abs(y), x, y) for x in range(-2, 3) for y in range(-2, 3))
        for start in range(0, len(slips), 10):
            other = ()
            for _, x, y in reversed(slips[start:start + 16]):
                other = other + ((-x, -y, 0),)
                self.assertEqual(sought(((0, 0, 0),), other, (0, 0, 0)), (0, (x, y), 1, 0))

    def test_no_pairs(self):
        for one, other in (((), ()), (BENT, ()), ((), BENT), (BENT, ((900, 0, 0),))):
            self.assertEqual(sought(one, other, WIDE), (0, (0, 0), 0, 0))
            self.assertEqual(sought(one, other, WIDE, far=5, turns=(6, 1)), (6, (0, 0), 0, 0))

    def test_far(self):
        one, other = ((0, 0, 0),), ((5, -5, 0),)
        for far in range(5):
            self.assertEqual(sought(one, other, (0, 0, 0), far=far), (0, (0, 0), 0, 0))
        self.assertEqual(sought(one, other, (0, 0, 0), far=5), (0, (-5, 5), 1, 0))
        self.assertEqual(sought(other, one, (0, 0, 0), far=5), (0, (5, -5), 1, 0))

    def test_two_either_way_and_no_turn_if_nothing_is_said(self):
        one = ((0, 0, 0),)
        self.assertEqual(sought(one, ((2, 2, 0),), (0, 0, 0)), (0, (-2, -2), 1, 0))
        self.assertEqual(sought(one, ((3, 0, 0),), (0, 0, 0)), (0, (0, 0), 0, 0))
        bent = turned(BENT, 1)
        self.assertEqual(sought(BENT, bent, (0, 0, 0))[2], 1)

    def test_turned_and_slipped_beyond_where_lights_stand(self):
        one, other = ((999, 0, 0),), ((0, -999, 0),)
        self.assertEqual(sought(one, other, (200, 0, 0), turns=(1,)), (1, (0, 0), 1, 0))
        self.assertEqual(sought(one, ((999, 0, 0),), (0, 0, 0), far=5), (0, (0, 0), 1, 0))

    def test_against_a_plain_search(self):
        chance = random.Random(7)
        for one, other, rule in some_cases(seed=77, times=60, most=3):
            far = chance.choice((0, 1, 2))
            turns = tuple(chance.choice(ALL_TURNS) for _ in range(chance.randint(1, 4)))
            with self.subTest(one=one, other=other, rule=rule, far=far, turns=turns):
                told = sought(one, other, rule, far=far, turns=turns)
                self.assertEqual(told, best_turn_and_slip(one, other, rule, far, turns))
                self.assertEqual(sought(one, other, rule, far=far, turns=turns), told)

    def test_what_is_told_is_what_pairing_tells_there(self):
        chance = random.Random(70)
        one, other = some_lights(chance, 16, 30, 9), some_lights(chance, 16, 30, 9)
        rule = (6, 5, 2)
        turn, slip, many, cost = sought(one, other, rule, turns=ALL_TURNS)
        pairs, told, _ = pairing(one, turned(other, turn), rule, slip=slip)
        self.assertEqual((many, cost), (len(pairs), told))

    def test_kinds_of_values(self):
        told = sought(BENT, BENT, WIDE)
        self.assertIs(type(told), tuple)
        self.assertEqual([type(part) for part in told], [int, tuple, int, int])
        self.assertEqual([type(number) for number in told[1]], [int, int])

    def test_by_name(self):
        sought(one=(), other=(), rule=WIDE, far=1, turns=(0,))
        with self.assertRaises(TypeError):
            sought((), (), WIDE, 2)


if __name__ == "__main__":
    unittest.main()
