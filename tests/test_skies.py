"""[11] and [12]: Sky; [1] to [3] as far as they speak of it."""

import random
import unittest
from itertools import product

from plain_search import some_lights
from skypairs.errors import BadDeed, BadLights, BadRule, Halted, NoLight, SkyError
from skypairs.pairing import sure
from skypairs.skies import Sky
from wrong_things import GOOD, NO_LIGHTS, NO_RULES, OTHER_KINDS, RULE, SIXTEEN, Refusing, not_from

WIDE = (200, 99, 0)

# Things that are no light whatever others there are.
NO_LIGHT = list(OTHER_KINDS) + [
    (), (1,), (1, 2), (1, 2, 3, 4), [1, 2, 3], GOOD,
    (1000, 0, 0), (-1000, 0, 0), (0, 1000, 0), (0, -1000, 0), (0, 0, 100), (0, 0, -1),
    (True, 7, 7), (7, False, 7), (7, 7, True), (7.0, 7, 7), ("7", 7, 7), (7, None, 7), (7, 7, (7,)),
    (7, 7, [7]),
]


def state(sky):
    return sky.lights(), sky.pairs(), sky.told(), sky.is_idle()


def small():
    """Two lights on a side, and their mates on the other in the other turn."""
    return Sky(((0, 0, 1), (50, 0, 2)), ((51, 0, 2), (1, 0, 1)), (10, 5, 1))


class Asking(int):
    """A number that asks a sky whether it is idle when it is compared."""

    sky = None
    answers = None

    def __ge__(self, other):
        self.answers.append(self.sky.is_idle())
        return int(self) >= other


class PlainSky:
    """A sky as a plain list of (name, light) for each side; sure is asked anew each time."""

    def __init__(self, one, other, rule):
        self.sides = [list(enumerate(one)), list(enumerate(other))]
        self.given = [len(one), len(other)]
        self.rule = rule

    def copy(self):
        twin = PlainSky((), (), self.rule)
        twin.sides, twin.given = [list(side) for side in self.sides], list(self.given)
        return twin

    def lights(self):
        return tuple(map(tuple, self.sides))

    def pairs(self):
        one, other = [tuple(light for _, light in side) for side in self.sides]
        found = sure(one, other, self.rule)
        return [(self.sides[0][a][0], self.sides[1][b][0]) for a, b in found]

    def do(self, word, side, *things):
        """What is told, or the kind and values of the refusal."""
        ahead = self.pairs()
        if side not in (0, 1):
            return NoLight, {}
        here = self.sides[side]
        names = [name for name, _ in here]
        told = ()
        if word != "put":
            name, *things = things
            if name not in names:
                return NoLight, {}
            at = names.index(name)
        else:
            at = len(here)
        if word == "drop":
            del here[at]
        else:
            others = here[:at] + here[at + 1:]
            (light,) = things
            taken = light[:2] in [other[:2] for _, other in others]
            if len(others) == 16 or taken or not 0 <= light[2] <= 99:
                return BadLights, {"number": len(others)}
            if word == "put":
                name = self.given[side]
                self.given[side] += 1
                told = (name,)
            here[at:at + 1] = [(name, light)]
        behind = self.pairs()
        return told + (sorted(set(ahead) - set(behind)), sorted(set(behind) - set(ahead)))


def some_deed(chance, plain):
    """A deed by chance, at times one that is refused."""
    side = chance.choice((0, 0, 0, 0, 1, 1, 1, 1, 2))
    name = chance.randint(0, max(plain.given[side % 2], 1))
    light = (chance.randint(-2, 2), chance.randint(-2, 2), chance.choice((0, 1, 2, 100)))
    return chance.choice((
        ("put", side, light), ("drop", side, name), ("move", side, name, light),
    ))


def some_skies(seed, times):
    chance = random.Random(seed)
    for _ in range(times):
        one, other = [some_lights(chance, chance.randint(0, 5), 2, 2) for _ in range(2)]
        rule = (chance.randint(0, 4), chance.randint(0, 2), chance.randint(0, 2))
        yield chance, Sky(one, other, rule), PlainSky(one, other, rule)


class Made(unittest.TestCase):
    def test_lights_and_pairs(self):
        sky = small()
        self.assertEqual(sky.lights(), (((0, (0, 0, 1)), (1, (50, 0, 2))),
                                        ((0, (51, 0, 2)), (1, (1, 0, 1)))))
        self.assertEqual(sky.pairs(), [(0, 1), (1, 0)])
        self.assertEqual(sky.told(), [])
        self.assertIs(sky.is_idle(), True)

    def test_empty_and_full(self):
        self.assertEqual(Sky((), (), RULE).lights(), ((), ()))
        self.assertEqual(Sky((), (), RULE).pairs(), [])
        sky = Sky(SIXTEEN, SIXTEEN, WIDE)
        self.assertEqual(sky.lights(), (tuple(enumerate(SIXTEEN)),) * 2)
        self.assertEqual(sky.pairs(), [(k, k) for k in range(16)])

    def test_only_sure_pairs(self):
        self.assertEqual(Sky(((0, 0, 0),), ((1, 0, 0), (-1, 0, 0)), WIDE).pairs(), [])
        self.assertEqual(Sky(((0, 0, 0),), ((2, 0, 0), (-1, 0, 0)), WIDE).pairs(), [(0, 1)])

    def test_by_name(self):
        sky = Sky(one=(), other=(), rule=RULE)
        sky.put(side=0, light=(0, 0, 0))
        sky.move(side=0, name=0, light=(1, 0, 0))
        sky.drop(side=0, name=0)
        sky.batch(deeds=[], keep=False)
        with self.assertRaises(TypeError):
            sky.batch([], False)

    def test_two_skies_share_nothing(self):
        one, other = small(), small()
        kept = state(other)
        one.batch([("put", 0, (7, 7, 7)), ("drop", 1, 0)])
        self.assertEqual(state(other), kept)


class Deeds(unittest.TestCase):
    def test_put(self):
        sky = small()
        self.assertEqual(sky.put(0, (20, 20, 1)), (2, [], []))
        self.assertEqual(sky.put(1, (20, 21, 1)), (2, [], [(2, 2)]))
        self.assertEqual(sky.lights()[0][2], (2, (20, 20, 1)))
        self.assertEqual(sky.lights()[1][2], (2, (20, 21, 1)))
        self.assertEqual(sky.pairs(), [(0, 1), (1, 0), (2, 2)])

    def test_put_takes_a_mate_away(self):
        sky = small()
        self.assertEqual(sky.put(0, (1, 0, 1)), (2, [(0, 1)], [(2, 1)]))
        self.assertEqual(sky.pairs(), [(1, 0), (2, 1)])

    def test_put_makes_a_pair_unsure(self):
        sky = small()
        self.assertEqual(sky.put(0, (2, 0, 1)), (2, [(0, 1)], []))
        self.assertEqual(sky.drop(0, 0), ([], [(2, 1)]))

    def test_drop(self):
        sky = small()
        self.assertEqual(sky.drop(0, 0), ([(0, 1)], []))
        self.assertEqual(sky.lights()[0], ((1, (50, 0, 2)),))
        self.assertEqual(sky.pairs(), [(1, 0)])
        self.assertEqual(sky.drop(1, 1), ([], []))
        self.assertEqual(sky.lights()[1], ((0, (51, 0, 2)),))
        self.assertEqual(sky.drop(1, 0), ([(1, 0)], []))
        self.assertEqual(sky.drop(0, 1), ([], []))
        self.assertEqual(sky.lights(), ((), ()))

    def test_names_after_a_drop(self):
        sky = small()
        sky.drop(0, 1)
        self.assertEqual(sky.put(0, (50, 0, 2)), (2, [], [(2, 0)]))
        self.assertEqual(sky.lights()[0], ((0, (0, 0, 1)), (2, (50, 0, 2))))
        sky.drop(0, 0)
        sky.drop(0, 2)
        self.assertEqual(sky.put(0, (0, 0, 0))[0], 3)
        self.assertEqual(sky.lights()[0], ((3, (0, 0, 0)),))
        # The other side has its own names.
        self.assertEqual(sky.put(1, (9, 9, 9))[0], 2)

    def test_no_name_is_given_twice_on_a_side(self):
        sky = Sky((), (), RULE)
        names = []
        for _ in range(40):
            names.append(sky.put(1, (0, 0, 0))[0])
            sky.drop(1, names[-1])
        self.assertEqual(names, list(range(40)))
        self.assertEqual(sky.put(0, (0, 0, 0))[0], 0)

    def test_a_refused_put_gives_no_name(self):
        sky = small()
        for light in ((0, 0, 5), (0, 0, 100), None):
            with self.assertRaises(BadLights):
                sky.put(0, light)
        self.assertEqual(sky.put(0, (9, 9, 9))[0], 2)

    def test_move(self):
        sky = small()
        self.assertEqual(sky.move(0, 0, (500, 0, 1)), ([(0, 1)], []))
        self.assertEqual(sky.lights()[0], ((0, (500, 0, 1)), (1, (50, 0, 2))))
        self.assertEqual(sky.move(0, 0, (2, 0, 1)), ([], [(0, 1)]))
        self.assertEqual(sky.move(1, 0, (40, 0, 2)), ([], []))
        self.assertEqual(sky.lights()[1], ((0, (40, 0, 2)), (1, (1, 0, 1))))

    def test_move_to_where_it_stands(self):
        sky = small()
        self.assertEqual(sky.move(0, 0, (0, 0, 1)), ([], []))
        self.assertEqual(sky.move(0, 0, (0, 0, 7)), ([(0, 1)], []))
        self.assertEqual(sky.lights()[0][0], (0, (0, 0, 7)))
        full = Sky(SIXTEEN, SIXTEEN, WIDE)
        self.assertEqual(full.move(1, 7, SIXTEEN[7]), ([], []))
        self.assertEqual(full.move(1, 7, (7, 1, 7)), ([], []))

    def test_move_where_another_one_left(self):
        sky = small()
        sky.drop(0, 1)
        self.assertEqual(sky.move(0, 0, (50, 0, 2)), ([(0, 1)], [(0, 0)]))

    def test_both_sides_may_have_lights_at_one_place(self):
        sky = small()
        self.assertEqual(sky.put(1, (0, 0, 1)), (2, [(0, 1)], [(0, 2)]))

    def test_gone_and_new_rise(self):
        # The first light goes behind the last one, so all of them change mates.
        sky = Sky(((0, 0, 0), (10, 0, 0), (20, 0, 0)), ((0, 1, 0), (10, 1, 0), (20, 1, 0)), WIDE)
        self.assertEqual(sky.pairs(), [(0, 0), (1, 1), (2, 2)])
        told = sky.move(0, 0, (30, 0, 0))
        self.assertEqual(told, ([(0, 0), (1, 1), (2, 2)], [(0, 2), (1, 0), (2, 1)]))

    def test_a_sixteenth_light(self):
        sky = Sky(SIXTEEN[:15], SIXTEEN, WIDE)
        self.assertEqual(sky.put(0, SIXTEEN[15]), (15, [], [(15, 15)]))
        sky.drop(1, 3)
        self.assertEqual(sky.put(1, (0, 5, 0))[0], 16)

    def test_against_asking_sure_anew(self):
        for chance, sky, plain in some_skies(seed=11, times=40):
            for _ in range(15):
                deed = some_deed(chance, plain)
                word, *things = deed
                method = getattr(sky, word)
                expected = plain.do(*deed)
                with self.subTest(deed=deed, lights=sky.lights(), rule=plain.rule):
                    try:
                        told = method(*things)
                    except SkyError as refusal:
                        told = (type(refusal), vars(refusal))
                    self.assertEqual(told, expected)
                    self.assertEqual(sky.lights(), plain.lights())
                    self.assertEqual(sky.pairs(), plain.pairs())
                    self.assertEqual(sky.pairs(), plain.pairs())

    def test_kinds_of_values(self):
        sky = small()
        told = sky.lights()
        self.assertEqual([type(thing) for thing in (told, *told, *told[0], *told[0][0])],
                         [tuple] * 5 + [int, tuple])
        told = sky.pairs()
        self.assertEqual([type(thing) for thing in (told, *told, *told[0])],
                         [list, tuple, tuple, int, int])
        for told, kinds in (
            (sky.put(0, (1, 0, 1)), [tuple, int, list, list]),
            (sky.move(0, 0, (2, 0, 1)), [tuple, list, list]),
            (sky.drop(0, 2), [tuple, list, list]),
        ):
            self.assertEqual([type(thing) for thing in (told, *told)], kinds)
        self.assertIs(type(sky.batch([])), list)
        self.assertIs(type(sky.told()), list)

    def test_what_is_told_may_be_changed(self):
        sky = small()
        _, gone, new = sky.put(0, (1, 0, 1))
        gone.append(5)
        new.clear()
        for ask in (sky.pairs, sky.told, sky.lights):
            sky.batch([])
            told = ask()
            kept = list(told)
            if type(told) is list:
                told.clear()
                told.append(None)
            self.assertEqual(list(ask()), kept)
        self.assertEqual(sky.pairs(), [(1, 0), (2, 1)])

    def test_asking_changes_nothing(self):
        sky = small()
        sky.batch([("drop", 0, 0)])
        kept = state(sky)
        for _ in range(3):
            self.assertEqual(state(sky), kept)


class Batches(Refusing, unittest.TestCase):
    def halted(self, number, done, sky, deeds, **more):
        told = self.refused(Halted, sky.batch, deeds, **more)
        self.assertEqual((told.number, told.done), (number, done))
        self.assertEqual([type(told.number), type(told.done)], [int, int])

    def test_what_each_told(self):
        sky, twin = small(), small()
        deeds = [("put", 0, (1, 0, 1)), ("drop", 1, 0), ("move", 0, 2, (3, 3, 3)), ("drop", 0, 2)]
        told = [twin.put(0, (1, 0, 1)), twin.drop(1, 0), twin.move(0, 2, (3, 3, 3)), twin.drop(0, 2)]
        self.assertEqual(sky.batch(deeds), told)
        self.assertEqual((sky.lights(), sky.pairs()), (twin.lights(), twin.pairs()))
        self.assertEqual(sky.told(), ["begun", "put", "drop", "move", "drop", "ended"])
        self.assertEqual(twin.told(), [])
        self.assertIs(sky.is_idle(), True)

    def test_a_deed_sees_those_ahead_of_it(self):
        sky = Sky((), (), RULE)
        deeds = [("put", 0, (0, 0, 0)), ("put", 1, (1, 0, 0)), ("drop", 0, 0), ("put", 0, (0, 0, 0))]
        self.assertEqual(sky.batch(deeds, keep=False),
                         [(0, [], []), (0, [], [(0, 0)]), ([(0, 0)], []), (1, [], [(1, 0)])])

    def test_no_deeds(self):
        sky = small()
        ahead = sky.lights(), sky.pairs()
        self.assertEqual(sky.batch([]), [])
        self.assertEqual(sky.batch([], keep=False), [])
        self.assertEqual((sky.lights(), sky.pairs()), ahead)
        self.assertEqual(sky.told(), ["begun", "ended", "begun", "ended"])

    def test_halted_and_kept(self):
        for more in ({}, {"keep": True}):
            sky, twin = small(), small()
            deeds = [("put", 0, (9, 9, 9)), ("drop", 1, 1), ("drop", 1, 1), ("drop", 1, 0)]
            self.halted(2, 2, sky, deeds, **more)
            twin.put(0, (9, 9, 9))
            twin.drop(1, 1)
            self.assertEqual((sky.lights(), sky.pairs()), (twin.lights(), twin.pairs()))
            self.assertEqual(sky.told(), ["begun", "put", "drop", "ended"])
            self.assertIs(sky.is_idle(), True)
            self.assertEqual(sky.put(0, (8, 8, 8))[0], 3)

    def test_halted_and_taken_back(self):
        sky = small()
        ahead = sky.lights(), sky.pairs()
        deeds = [("drop", 0, 0), ("put", 0, (9, 9, 9)), ("move", 1, 1, (4, 4, 4)), ("drop", 2, 0)]
        self.halted(3, 0, sky, deeds, keep=False)
        self.assertEqual((sky.lights(), sky.pairs()), ahead)
        self.assertEqual(sky.told(), ["begun", "drop", "put", "move", "ended"])
        self.assertIs(sky.is_idle(), True)
        # Names too: the one that was given in the batch is given anew.
        self.assertEqual(sky.put(0, (9, 9, 9))[0], 2)
        self.assertEqual(sky.put(1, (9, 9, 9))[0], 2)

    def test_lights_taken_back_stand_in_turn(self):
        sky = Sky(SIXTEEN, (), WIDE)
        ahead = sky.lights()
        deeds = [("drop", 0, 3), ("drop", 0, 0), ("put", 0, (0, 9, 9)), ("move", 0, 5, (0, 8, 8)),
                 ("put", 1, (0, 0, 0)), ("put", 0, (0, 9, 9))]
        self.halted(5, 0, sky, deeds, keep=False)
        self.assertEqual(sky.lights(), ahead)
        sky.drop(0, 0)
        self.assertEqual(sky.lights()[0], ahead[0][1:])

    def test_the_first_deed_refused(self):
        for keep in (True, False):
            sky = small()
            ahead = sky.lights(), sky.pairs()
            self.halted(0, 0, sky, [("drop", 0, 7), ("drop", 0, 0)], keep=keep)
            self.assertEqual((sky.lights(), sky.pairs()), ahead)
            self.assertEqual(sky.told(), ["begun", "ended"])

    def test_the_last_deed_refused(self):
        for keep in (True, False):
            sky = small()
            self.halted(1, 1 if keep else 0, sky, [("drop", 0, 0), ("drop", 0, 0)], keep=keep)
            self.assertEqual(len(sky.lights()[0]), 1 if keep else 2)

    def test_all_refusals_of_deeds_halt(self):
        for deed in (
            ("put", 2, (5, 5, 5)), ("put", True, (5, 5, 5)), ("put", 0, (0, 0, 100)), ("put", 0, None),
            ("put", 0, [5, 5, 5]), ("put", 0, (0, 0, 5)), ("put", None, None), ("put", [], []),
            ("drop", 2, 0), ("drop", 0, 2), ("drop", 0, True), ("drop", 0, [0]), ("drop", "0", 0),
            ("move", -1, 0, (5, 5, 5)), ("move", 0, -1, (5, 5, 5)), ("move", 0, 0, (50, 0, 5)),
            ("move", 0, 0, None), ("move", 0, {}, (5, 5, 5)),
        ):
            for keep in (True, False):
                with self.subTest(deed=deed, keep=keep):
                    sky = small()
                    self.halted(1, 1 if keep else 0, sky, [("put", 1, (5, 5, 5)), deed], keep=keep)
                    self.assertEqual(sky.told(), ["begun", "put", "ended"])
                    self.assertEqual(len(sky.lights()[1]), 3 if keep else 2)
        full = Sky(SIXTEEN, (), WIDE)
        self.halted(0, 0, full, [("put", 0, (0, 1, 0))])

    def test_the_cause_is_the_deeds_refusal(self):
        told = self.refused(Halted, small().batch, [("put", 0, (0, 0, 5))])
        self.assertIs(type(told.__cause__), BadLights)
        self.assertEqual(told.__cause__.number, 2)

    def test_batches_go_on_after_a_halt(self):
        sky = small()
        self.halted(0, 0, sky, [("drop", 0, 7)], keep=False)
        self.assertEqual(sky.batch([("drop", 0, 0)]), [([(0, 1)], [])])
        self.halted(1, 1, sky, [("drop", 0, 1), ("drop", 0, 1)])
        self.assertEqual(sky.told(), ["begun", "ended", "begun", "drop", "ended",
                                      "begun", "drop", "ended"])

    def test_deeds_alone_are_not_told(self):
        sky = small()
        sky.put(0, (9, 9, 9))
        sky.move(0, 2, (8, 8, 8))
        sky.drop(0, 2)
        self.assertEqual(sky.told(), [])

    def test_not_idle_while_one_is_under_way(self):
        sky = small()
        for glow in (9, 100):
            number = Asking(5)
            number.sky, number.answers = sky, []
            try:
                sky.batch([("put", 0, (number, glow, glow))])
            except Halted:
                self.assertEqual(glow, 100)
            self.assertTrue(number.answers)
            self.assertFalse(any(number.answers))
            self.assertIs(sky.is_idle(), True)

    def test_no_deed(self):
        light = (5, 5, 5)
        wrong = list(OTHER_KINDS) + [
            (), ("put",), ("put", 0), ("put", 0, light, 0), ("put", 0, 0, light), ["put", 0, light],
            ("drop",), ("drop", 0), ("drop", 0, 0, 0), ("drop", 0, 0, light),
            ("move", 0, 0), ("move", 0, light), ("move", 0, 0, light, 0), ["move", 0, 0, light],
            ("Put", 0, light), ("put ", 0, light), ("", 0, light), ("begun", 0, light),
            (None, 0, light), (0, 0, light), (True, 0, light), (["put"], 0, light), (b"put", 0, light),
            (("put",), 0, light), ({}, 0, light), ("told",), ("lights",), ("batch", []),
        ]
        for deed in wrong:
            for ahead in ([], [("put", 0, light)], [("drop", 9, 9)] * 3):
                with self.subTest(deed=deed, ahead=ahead):
                    sky = small()
                    kept = state(sky)
                    for keep in (True, False):
                        deeds = ahead + [deed, None]
                        told = self.refused(BadDeed, sky.batch, deeds, keep=keep)
                        self.assertEqual(told.number, len(ahead))
                        self.assertIs(type(told.number), int)
                        self.assertEqual(state(sky), kept)
                    self.assertEqual(sky.put(0, light)[0], 2)

    def test_no_list_of_deeds(self):
        sky = small()
        kept = state(sky)
        deed = ("drop", 0, 0)
        for deeds in (None, True, False, 0, 7, 0.5, "", "put", (), (deed,), deed, {}, b""):
            with self.subTest(deeds=deeds):
                self.assertEqual(self.refused(BadDeed, sky.batch, deeds).number, 0)
                self.assertEqual(state(sky), kept)

    def test_deeds_are_neither_changed_nor_kept(self):
        sky = small()
        deeds = [("put", 0, (5, 5, 5)), ("drop", 0, 2)]
        told = sky.batch(deeds)
        self.assertEqual(deeds, [("put", 0, (5, 5, 5)), ("drop", 0, 2)])
        deeds.clear()
        told.clear()
        self.assertEqual(sky.told(), ["begun", "put", "drop", "ended"])

    def test_against_asking_sure_anew(self):
        for chance, sky, plain in some_skies(seed=12, times=60):
            log = []
            for keep in (True, False, chance.choice((True, False))):
                ahead = plain.copy()
                deeds = []
                for _ in range(chance.randint(0, 8)):
                    deeds.append(some_deed(chance, plain))
                answers = []
                for deed in deeds:
                    answer = plain.do(*deed)
                    if isinstance(answer[0], type):
                        break
                    answers.append(answer)
                done = len(answers)
                log += ["begun"] + [deed[0] for deed in deeds[:done]] + ["ended"]
                with self.subTest(deeds=deeds, keep=keep, lights=ahead.lights(), rule=plain.rule):
                    if done == len(deeds):
                        self.assertEqual(sky.batch(deeds, keep=keep), answers)
                    else:
                        self.halted(done, done if keep else 0, sky, deeds, keep=keep)
                        plain = plain if keep else ahead
                    self.assertEqual(sky.lights(), plain.lights())
                    self.assertEqual(sky.pairs(), plain.pairs())
                    self.assertEqual(sky.told(), log)
                    self.assertIs(sky.is_idle(), True)
            for side in (0, 1):
                self.assertEqual(sky.put(side, (900, 900, 0))[0], plain.given[side])


class Refusals(Refusing, unittest.TestCase):
    def setUp(self):
        self.sky = small()
        self.ahead = state(self.sky)

    def tearDown(self):
        # Whatever was refused changed nothing.
        self.assertEqual(state(self.sky), self.ahead)
        self.assertEqual(self.sky.put(0, (7, 7, 7))[0], 2)

    def test_made_of(self):
        for things, number in NO_LIGHTS:
            with self.subTest(things=things):
                self.bad_lights(number, Sky, things, GOOD, RULE)
                self.bad_lights(number, Sky, GOOD, things, RULE)
        for thing in NO_RULES:
            with self.subTest(thing=thing):
                self.refused(BadRule, Sky, GOOD, GOOD, thing)

    def test_made_of_several_wrong_things(self):
        third = GOOD + (None,)
        self.bad_lights(2, Sky, third, None, None)
        self.bad_lights(2, Sky, GOOD, third, None)
        self.bad_lights(0, Sky, None, third, RULE)

    def test_no_such_side(self):
        for side in not_from(0, 1):
            with self.subTest(side=side):
                self.refused(NoLight, self.sky.put, side, (5, 5, 5))
                self.refused(NoLight, self.sky.drop, side, 0)
                self.refused(NoLight, self.sky.move, side, 0, (5, 5, 5))

    def test_no_such_name(self):
        for side, name in product((0, 1), not_from(0, 1) + [2, 3, -2]):
            with self.subTest(side=side, name=name):
                self.refused(NoLight, self.sky.drop, side, name)
                self.refused(NoLight, self.sky.move, side, name, (5, 5, 5))

    def test_a_name_that_was_dropped_or_is_the_other_sides(self):
        sky = Sky(GOOD, SIXTEEN, RULE)
        sky.drop(0, 0)
        sky.drop(1, 15)
        for side, name in ((0, 0), (0, 2), (0, 7), (1, 15), (1, 16)):
            self.refused(NoLight, sky.drop, side, name)
            self.refused(NoLight, sky.move, side, name, (99, 99, 9))
        sky.drop(0, 1)
        self.refused(NoLight, sky.drop, 0, 1)

    def test_no_light(self):
        for light in NO_LIGHT:
            with self.subTest(light=light):
                for side in (0, 1):
                    self.bad_lights(2, self.sky.put, side, light)
                    self.bad_lights(1, self.sky.move, side, 1, light)
                self.bad_lights(0, Sky((), GOOD, RULE).put, 0, light)
                self.bad_lights(15, Sky(SIXTEEN, (), RULE).move, 0, 3, light)

    def test_where_another_one_stands(self):
        for light in ((0, 0, 1), (0, 0, 99), (50, 0, 0)):
            self.bad_lights(2, self.sky.put, 0, light)
        self.bad_lights(1, self.sky.move, 0, 0, (50, 0, 1))
        self.bad_lights(1, self.sky.move, 0, 1, (0, 0, 2))
        full = Sky(SIXTEEN, (), RULE)
        self.bad_lights(15, full.move, 0, 15, (0, 0, 0))
        self.bad_lights(15, full.move, 0, 0, (15, 0, 0))
        fifteen = Sky(SIXTEEN[:15], (), RULE)
        self.bad_lights(15, fifteen.put, 0, (3, 0, 0))
        fifteen.drop(0, 0)
        self.bad_lights(14, fifteen.put, 0, (3, 0, 0))

    def test_a_seventeenth(self):
        sky = Sky(SIXTEEN, SIXTEEN[:15], WIDE)
        for light in ((0, 1, 0), (0, 0, 0), None, (0, 0, 100)):
            self.bad_lights(16, sky.put, 0, light)
        self.assertEqual(sky.put(1, (0, 1, 0))[0], 15)
        self.bad_lights(16, sky.put, 1, (0, 2, 0))
        self.assertEqual([len(side) for side in sky.lights()], [16, 16])

    def test_what_is_handed_in_first_is_refused_first(self):
        self.refused(NoLight, self.sky.put, 2, None)
        self.refused(NoLight, self.sky.put, None, (0, 0, 1))
        self.refused(NoLight, self.sky.drop, None, None)
        self.refused(NoLight, self.sky.move, None, None, None)
        self.refused(NoLight, self.sky.move, 0, None, None)
        self.refused(NoLight, self.sky.move, 0, 2, (0, 0, 1))
        self.refused(NoLight, Sky(SIXTEEN, (), RULE).put, 2, (0, 1, 0))


if __name__ == "__main__":
    unittest.main()
