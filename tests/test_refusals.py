"""[1], [2], [3] and [7]: what is refused at each door, with which values, and what comes first."""

import unittest

from skypairs.errors import BadCount, BadRule, BadSlip
from skypairs.finding import sought, turned
from skypairs.pairing import likely, pairing, settles, sure
from wrong_things import GOOD, NO_LIGHTS, NO_RULES, OTHER_KINDS, RULE, SIXTEEN, Refusing

EMPTY = ((), ())

NO_SLIPS = list(OTHER_KINDS) + [
    (), (0,), (0, 0, 0), [0, 0],
    (1000, 0), (-1000, 0), (0, 1000), (0, -1000),
    (True, 0), (0, False), (0.0, 0), (0, "0"), (None, 0), (0, (0,)),
]

NO_FARS = [thing for thing in OTHER_KINDS if type(thing) is not int] + [-7, -1, 6, 100, (), (2,)]

NO_TURN = [thing for thing in OTHER_KINDS if type(thing) is not int] + [-7, -1, 8, 100, (), (2,)]

NO_TURNS = list(OTHER_KINDS) + [()] + [(turn,) for turn in NO_TURN] + [(0, 8), (-1, 0), (7, True)]


def asked_to_settle(one, other, rule, **more):
    return settles(one, other, rule, (), EMPTY, **more)


PAIRERS = (pairing, asked_to_settle, sure, likely)
DOORS = PAIRERS + (sought,)


class Refusals(Refusing, unittest.TestCase):
    def test_lights(self):
        for things, number in NO_LIGHTS:
            with self.subTest(things=things):
                for door in DOORS:
                    self.bad_lights(number, door, things, GOOD, RULE)
                    self.bad_lights(number, door, GOOD, things, RULE)
                self.bad_lights(number, turned, things, 0)

    def test_rules(self):
        for thing in NO_RULES:
            with self.subTest(thing=thing):
                for door in DOORS:
                    self.refused(BadRule, door, GOOD, GOOD, thing)

    def test_slips(self):
        for thing in NO_SLIPS:
            with self.subTest(thing=thing):
                for door in PAIRERS:
                    self.refused(BadSlip, door, GOOD, GOOD, RULE, slip=thing)

    def test_turned_counts(self):
        for thing in NO_TURN:
            with self.subTest(thing=thing):
                self.refused(BadCount, turned, GOOD, thing)
                self.refused(BadCount, turned, (), thing)

    def test_sought_counts(self):
        for thing in NO_FARS:
            with self.subTest(far=thing):
                self.refused(BadCount, sought, GOOD, GOOD, RULE, far=thing)
        for thing in NO_TURNS:
            with self.subTest(turns=thing):
                self.refused(BadCount, sought, GOOD, GOOD, RULE, turns=thing)
                self.refused(BadCount, sought, (), (), RULE, far=0, turns=thing)

    def test_what_is_handed_in_first_is_refused_first(self):
        third = GOOD + (None,)
        for door in DOORS:
            self.bad_lights(2, door, third, None, None)
            self.bad_lights(0, door, None, third, RULE)
            self.bad_lights(2, door, GOOD, third, None)
        for door in PAIRERS:
            self.bad_lights(2, door, third, GOOD, RULE, slip=None)
            self.bad_lights(2, door, GOOD, third, RULE, slip=None)
            self.refused(BadRule, door, GOOD, GOOD, None, slip=None)
        for more in ({"far": None}, {"turns": None}, {"far": None, "turns": None}):
            self.bad_lights(2, sought, third, GOOD, RULE, **more)
            self.bad_lights(2, sought, GOOD, third, RULE, **more)
            self.refused(BadRule, sought, GOOD, GOOD, None, **more)
        self.bad_lights(2, turned, third, None)

    def test_far_is_refused_ahead_of_turns(self):
        # Both are BadCount; the words tell which was met.
        both = self.refused(BadCount, sought, GOOD, GOOD, RULE, far=None, turns=None)
        far = self.refused(BadCount, sought, GOOD, GOOD, RULE, far=None)
        turns = self.refused(BadCount, sought, GOOD, GOOD, RULE, turns=None)
        self.assertEqual(str(both), str(far))
        self.assertNotEqual(str(both), str(turns))

    def test_settles_refuses_lists_rule_and_slip_whatever_else_is_wrong(self):
        for pairs, prices in ((None, None), ((), EMPTY), ([], 5)):
            self.bad_lights(0, settles, None, GOOD, RULE, pairs, prices)
            self.bad_lights(0, settles, GOOD, None, RULE, pairs, prices)
            self.refused(BadRule, settles, GOOD, GOOD, None, pairs, prices)
            self.refused(BadSlip, settles, GOOD, GOOD, RULE, pairs, prices, slip=None)

    def test_what_is_just_allowed(self):
        corners = ((999, 999, 99), (-999, -999, 0), (999, -999, 0), (-999, 999, 99))
        for rule in ((0, 0, 0), (200, 99, 99)):
            for slip in ((0, 0), (999, 999), (-999, -999), (999, -999)):
                for door in PAIRERS:
                    door(corners, SIXTEEN, rule, slip=slip)
                    door((), (), rule, slip=slip)
            for far in (0, 5):
                sought(corners, GOOD, rule, far=far, turns=(0, 7))
        for turn in (0, 7):
            self.assertEqual(len(turned(SIXTEEN, turn)), 16)

    def test_a_refusal_changes_nothing(self):
        asked = [lambda: pairing(GOOD, GOOD, RULE), lambda: sure(GOOD, GOOD, RULE),
                 lambda: likely(GOOD, GOOD, RULE), lambda: sought(GOOD, GOOD, RULE)]
        ahead = [ask() for ask in asked]
        for door in DOORS:
            self.refused(BadRule, door, GOOD, GOOD, None)
        self.assertEqual([ask() for ask in asked], ahead)


if __name__ == "__main__":
    unittest.main()
