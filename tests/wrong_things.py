"""What can't be handed in, and what is asked of a refusal."""

from skypairs.errors import BadLights, SkyError

GOOD = ((0, 0, 0), (3, 4, 9))
RULE = (5, 9, 1)
SIXTEEN = tuple((x, 0, x) for x in range(16))
OTHER_KINDS = (None, True, False, 0, 1, -7, 0.5, 2.0, "", "abc", [], [0, 0, 0], [(0, 0, 0)], b"abc")

NO_LIGHTS = [(thing, 0) for thing in OTHER_KINDS] + [
    ((thing,), 0) for thing in OTHER_KINDS
] + [
    (((0, 0, 0), ()), 1),
    (((0, 0),), 0),
    (((0, 0, 0, 0),), 0),
    (((1000, 0, 0),), 0),
    (((-1000, 0, 0),), 0),
    (((0, 1000, 0),), 0),
    (((0, -1000, 0),), 0),
    (((0, 0, 100),), 0),
    (((0, 0, -1),), 0),
    (((0, 0, 0), (999, -999, 99), (5, 1000, 1)), 2),
    (((0, 0, 0), (1, 0, 0), (0, 0, 0)), 2),
    (((0, 0, 0), (1, 0, 0), (1, 0, 7), (0, 0, 3)), 2),
    (((True, 0, 0),), 0),
    (((0, False, 0),), 0),
    (((0, 0, True),), 0),
    (((0, 0, 0), (1, False, 0)), 1),
    (((0.0, 0, 0),), 0),
    (((0, "0", 0),), 0),
    (((0, 0, None),), 0),
    (((0, 0, (0,)),), 0),
    (((0, 0, [0]),), 0),
    ((GOOD, GOOD), 0),
    (SIXTEEN + ((0, 1, 0),), 16),
    (SIXTEEN + ((0, 1, 0), (0, 2, 0), (0, 3, 0)), 16),
    (SIXTEEN + (None,), 16),
    (SIXTEEN + ((0, 0, 0),), 16),
    (SIXTEEN[:4] + (None,) + SIXTEEN[5:] + ((0, 1, 0),), 4),
    (SIXTEEN[:15] + ((3, 0, 50), (0, 1, 0)), 15),
]

NO_RULES = list(OTHER_KINDS) + [
    (), (5,), (5, 9), (5, 9, 1, 0), [5, 9, 1],
    (-1, 9, 1), (201, 9, 1), (5, -1, 1), (5, 100, 1), (5, 9, -1), (5, 9, 100),
    (True, 9, 1), (5, True, 1), (5, 9, False),
    (5.0, 9, 1), ("5", 9, 1), (5, None, 1), (5, 9, (1,)), (5, 9, [1]),
]


def not_from(low, high):
    """Things that are no number from low to high."""
    kinds = [thing for thing in OTHER_KINDS if type(thing) is not int]
    return kinds + [low - 1, high + 1, -1000, 1000, (), (low,), [low], str(low), float(high)]


class Refusing:
    """What a test case asks of refusals."""

    def refused(self, error, door, *things, **more):
        with self.assertRaises(SkyError) as told:
            door(*things, **more)
        self.assertIs(type(told.exception), error)
        return told.exception

    def bad_lights(self, number, door, *things, **more):
        told = self.refused(BadLights, door, *things, **more).number
        self.assertEqual(told, number)
        self.assertIs(type(told), int)
