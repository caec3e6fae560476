"""[8] and [9]: tracks and chosen; [1] to [3] as far as they speak of these."""

import random
import unittest

from plain_search import all_tracks, best_lot, lots_of_tracks, some_lights
from skypairs.errors import BadCount
from skypairs.tracks import chosen, tracks
from wrong_things import GOOD, NO_LIGHTS, OTHER_KINDS, SIXTEEN, Refusing, not_from

THREE = [((0, 0, 5),), ((1, 2, 6),), ((2, 4, 7),)]
DOORS = (tracks, chosen)


def single(*lights):
    """Epochs of one light each, of none for None."""
    return [() if light is None else (light,) for light in lights]


def apart(many):
    """Two epochs with lights so far from each other that each has one track, standing still."""
    lights = tuple((100 * k - 800, 0, k) for k in range(many))
    return [lights, lights]


def some_epochs(seed, times):
    chance = random.Random(seed)
    for _ in range(times):
        span, glows = chance.choice((1, 2, 6, 30)), chance.choice((0, 2, 9))
        many = chance.randint(2, 6)
        epochs = []
        for _ in range(many):
            epochs.append(some_lights(chance, chance.randint(0, 3), span, glows))
        yield epochs, chance.randint(2, many), chance.choice((0, 1, 3, 99))


class Tracks(unittest.TestCase):
    def test_a_light_that_moves_evenly(self):
        self.assertEqual(tracks(THREE), [((0, 0), (1, 2), (0, 0, 0))])

    def test_numbers_are_those_of_the_lights_there(self):
        epochs = [((9, 9, 0), (0, 0, 5)), ((50, -90, 0), (70, 80, 1), (3, -3, 5)), ((6, -6, 5),)]
        self.assertEqual(tracks(epochs), [((0, 0), (3, -3), (1, 2, 0))])

    def test_none_where_no_light_is(self):
        epochs = single((0, 0, 0), None, (2, 2, 0), None, None, (5, 5, 0))
        self.assertEqual(tracks(epochs), [((0, 0), (1, 1), (0, None, 0, None, None, 0))])

    def test_lights_that_stand_still(self):
        self.assertEqual(tracks(single((7, -7, 1), (7, -7, 2), (7, -7, 3))),
                         [((7, -7), (0, 0), (0, 0, 0))])

    def test_whatever_lights_are_there_are_of_it(self):
        epochs = single((0, 0, 0), (1, 0, 9), (2, 0, 0))
        # The one between is too bright, and can't be left out.
        self.assertEqual(tracks(epochs, least=2, dim=8), [])
        self.assertEqual(tracks(epochs, least=2, dim=9), [((0, 0), (1, 0), (0, 0, 0))])

    def test_glows_of_any_two_are_compared(self):
        epochs = single((0, 0, 3), (1, 0, 6), (2, 0, 0), (3, 0, 3))
        self.assertEqual(tracks(epochs, dim=5), [])
        self.assertEqual(tracks(epochs, dim=6), [((0, 0), (1, 0), (0, 0, 0, 0))])

    def test_start_may_lie_anywhere(self):
        epochs = single(None, None, None, None, (999, -999, 0), (949, -949, 0))
        self.assertEqual(tracks(epochs, least=2), [((1199, -1199), (-50, 50), (None,) * 4 + (0, 0))])

    def test_a_way_may_leave_where_lights_stand(self):
        epochs = single((899, 0, 0), (949, 0, 0), (999, 0, 0), None)
        self.assertEqual(tracks(epochs), [((899, 0), (50, 0), (0, 0, 0, None))])

    def test_speeds_up_to_fifty(self):
        for x, y in ((50, 0), (-50, 0), (0, 50), (0, -50), (50, -50), (-50, 50)):
            epochs = single((1, 2, 0), (1 + x, 2 + y, 0))
            self.assertEqual(tracks(epochs, least=2), [((1, 2), (x, y), (0, 0))])
            epochs = single((1, 2, 0), None, (1 + 2 * x, 2 + 2 * y, 0))
            self.assertEqual(tracks(epochs, least=2), [((1, 2), (x, y), (0, None, 0))])
        for x, y in ((51, 0), (-51, 0), (0, 51), (0, -51), (51, 51), (-51, -51), (50, 51)):
            self.assertEqual(tracks(single((1, 2, 0), (1 + x, 2 + y, 0)), least=2), [])
            epochs = single((1, 2, 0), None, (1 + 2 * x, 2 + 2 * y, 0))
            self.assertEqual(tracks(epochs, least=2), [])

    def test_speeds_are_whole(self):
        for x, y in ((1, 0), (0, 1), (-1, 0), (3, 2), (2, -3), (99, 0), (101, 0)):
            self.assertEqual(tracks(single((0, 0, 0), None, (x, y, 0)), least=2), [])
        self.assertEqual(tracks(single((0, 0, 0), None, None, (3, -6, 0)), least=2),
                         [((0, 0), (1, -2), (0, None, None, 0))])
        self.assertEqual(tracks(single((0, 0, 0), None, None, (2, -6, 0)), least=2), [])

    def test_least(self):
        epochs = single((0, 0, 0), (1, 0, 0), (2, 0, 0), (3, 0, 0), None, (100, 100, 0))
        whole = ((0, 0), (1, 0), (0, 0, 0, 0, None, None))
        self.assertEqual(tracks(epochs), [whole])
        self.assertEqual(tracks(epochs, least=4), [whole])
        self.assertEqual(tracks(epochs, least=5), [])
        self.assertEqual(tracks(epochs, least=6), [])
        self.assertEqual(tracks(epochs, least=3), [whole])
        short = ((0, 0), (20, 20), (0, None, None, None, None, 0))
        self.assertEqual(tracks(epochs, least=2), [whole, short])

    def test_three_lights_and_any_glow_if_nothing_is_said(self):
        epochs = single((0, 0, 0), (5, 5, 99), (10, 10, 0)) + [((500, 0, 0),), ((510, 0, 0),)]
        self.assertEqual(tracks(epochs), [((0, 0), (5, 5), (0, 0, 0, None, None))])
        self.assertEqual(tracks(epochs, dim=99), tracks(epochs, least=3))
        self.assertEqual(chosen(epochs), [0])
        self.assertEqual(tracks(epochs, dim=98), [])
        self.assertEqual(chosen(epochs, dim=98), [])

    def test_two_epochs_and_six(self):
        self.assertEqual(tracks(THREE[:2], least=2), [((0, 0), (1, 2), (0, 0))])
        six = single(*[(k, -k, 0) for k in range(6)])
        for least in range(2, 7):
            self.assertEqual(tracks(six, least=least), [((0, 0), (1, -1), (0,) * 6)])

    def test_no_lights(self):
        for many in range(2, 7):
            self.assertEqual(tracks([()] * many, least=2), [])
            self.assertEqual(chosen([()] * many, least=2), [])

    def test_rising(self):
        epochs = [((1, 0, 0), (0, 5, 0), (0, -5, 0)), ((2, 0, 0), (0, 0, 0))]
        told = tracks(epochs, least=2)
        self.assertEqual(told, [
            ((0, -5), (0, 5), (2, 1)), ((0, -5), (2, 5), (2, 0)),
            ((0, 5), (0, -5), (1, 1)), ((0, 5), (2, -5), (1, 0)),
            ((1, 0), (-1, 0), (0, 1)), ((1, 0), (1, 0), (0, 0)),
        ])

    def test_sixteen_lights_at_six_epochs(self):
        epochs = [tuple((x + k, 3 * k, x) for x in range(16)) for k in range(6)]
        told = tracks(epochs, least=6, dim=0)
        self.assertEqual(told, [((x, 0), (1, 3), (x,) * 6) for x in range(16)])
        self.assertEqual(tracks(epochs, least=2), tracks(epochs, least=2, dim=99))

    def test_against_a_plain_search(self):
        for epochs, least, dim in some_epochs(seed=8, times=40):
            with self.subTest(epochs=epochs, least=least, dim=dim):
                told = tracks(epochs, least=least, dim=dim)
                self.assertEqual(told, all_tracks(epochs, least, dim))
                self.assertEqual(tracks(epochs, least=least, dim=dim), told)

    def test_kinds_of_values(self):
        told = tracks(THREE)
        self.assertIs(type(told), list)
        (track,) = told
        self.assertEqual([type(part) for part in (track,) + track], [tuple] * 4)
        for number in track[0] + track[1] + track[2]:
            self.assertIs(type(number), int)
        self.assertIs(type(chosen(THREE)), list)
        self.assertIs(type(chosen(THREE)[0]), int)

    def test_nothing_is_changed_or_kept(self):
        epochs = list(THREE)
        told = [door(epochs) for door in DOORS]
        self.assertEqual(epochs, THREE)
        kept = [list(found) for found in told]
        for found in told:
            found.clear()
        epochs[2] = ()
        self.assertEqual([door(THREE) for door in DOORS], kept)
        self.assertEqual([door(epochs) for door in DOORS], [[], []])

    def test_by_name(self):
        for door in DOORS:
            self.assertEqual(len(door(epochs=THREE, least=3, dim=2)), 1)
            with self.assertRaises(TypeError):
                door(THREE, 3)


class Chosen(unittest.TestCase):
    def test_one(self):
        self.assertEqual(chosen(THREE), [0])

    def test_numbers_among_what_tracks_tells(self):
        epochs = [((300, 0, 0), (0, 0, 0)), ((310, 0, 0), (10, 0, 0)), ((320, 0, 0), (20, 0, 0))]
        self.assertEqual(tracks(epochs)[1][2], (0, 0, 0))
        self.assertEqual(chosen(epochs), [0, 1])

    def test_none_has_a_light_of_another_one(self):
        # Both go through the one light of the second epoch.
        epochs = [((0, 0, 0), (0, 20, 0)), ((10, 10, 0),), ((20, 20, 0), (20, 0, 0))]
        self.assertEqual(len(tracks(epochs)), 2)
        self.assertEqual(chosen(epochs), [0])

    def test_same_numbers_at_different_epochs_are_different_lights(self):
        epochs = single((0, 0, 0), (1, 0, 0), None, None, (300, 0, 0), (301, 0, 0))
        told = tracks(epochs, least=2)
        self.assertEqual([numbers for _, _, numbers in told],
                         [(0, 0, None, None, None, None), (None, None, None, None, 0, 0)])
        self.assertEqual(chosen(epochs, least=2), [0, 1])

    def test_tracks_may_meet_where_no_light_is(self):
        epochs = [((0, 0, 0), (0, 40, 0)), (), ((40, 0, 0), (40, 40, 0))]
        told = tracks(epochs, least=2)
        across = [at for at, track in enumerate(told) if track[1][1] != 0]
        self.assertEqual(len(across), 2)
        self.assertEqual(len(told), 4)
        self.assertEqual(chosen(epochs, least=2), [0, 3])

    def test_most_lights_go_ahead_of_fewest_tracks(self):
        epochs = [((0, 0, 0), (0, 20, 0)), ((10, 10, 0), (200, 0, 0)),
                  ((20, 20, 0), (210, 0, 0)), ((220, 0, 0),)]
        self.assertEqual(chosen(epochs, least=3), [0, 1])

    def test_fewest_tracks_of_as_many_lights(self):
        # Two short tracks have as many lights as the long one, and would come first.
        epochs = [((0, 0, 0), (0, 7, 0)), ((40, 0, 0),), ((80, 0, 0), (-80, -14, 0)), ((120, 0, 0),)]
        told = [numbers for _, _, numbers in tracks(epochs, least=2)]
        self.assertEqual(told, [(0, None, 1, None), (0, 0, 0, 0), (1, 0, None, None)])
        self.assertEqual(chosen(epochs, least=2), [1])

    def test_first_as_lists_ascend(self):
        epochs = [((40, 7, 0),), ((40, -7, 0),), ((80, -14, 0),)]
        self.assertEqual(len(tracks(epochs, least=2)), 2)
        self.assertEqual(chosen(epochs, least=2), [0])
        crossed = [((0, 0, 0), (0, 40, 0)), ((40, 0, 0), (40, 40, 0))]
        self.assertEqual(len(tracks(crossed, least=2)), 4)
        self.assertEqual(chosen(crossed, least=2), [0, 3])

    def test_least_and_dim_count(self):
        epochs = single((0, 0, 0), (1, 0, 9), (500, 0, 0), (501, 0, 0), (502, 0, 0))
        self.assertEqual(chosen(epochs, least=2), [0, 1])
        self.assertEqual(chosen(epochs, least=2, dim=8), [0])
        self.assertEqual(chosen(epochs), [0])

    def test_fourteen_tracks(self):
        self.assertEqual(chosen(apart(14), least=2), list(range(14)))
        # All of two and seven: a light of each can be in one only.
        crossed = [((0, 0, 0), (1, 0, 0)), tuple((x, 9, 0) for x in range(7))]
        self.assertEqual(len(tracks(crossed, least=2)), 14)
        self.assertEqual(chosen(crossed, least=2), [0, 8])

    def test_against_a_plain_search(self):
        tried = 0
        for epochs, least, dim in some_epochs(seed=9, times=400):
            found = tracks(epochs, least=least, dim=dim)
            if not 2 <= len(found) <= 10:
                continue
            tried += 1
            with self.subTest(epochs=epochs, least=least, dim=dim):
                told = chosen(epochs, least=least, dim=dim)
                self.assertEqual(told, best_lot(found))
                self.assertEqual(chosen(epochs, least=least, dim=dim), told)
        self.assertGreater(tried, 60)

    def test_plain_search_itself(self):
        found = [(None, None, (0, None)), (None, None, (0, 1)), (None, None, (None, 1))]
        self.assertEqual(sorted(lots_of_tracks(found)),
                         [(0, []), (1, [0]), (1, [2]), (2, [0, 2]), (2, [1])])
        self.assertEqual(best_lot(found), [1])


class Refusals(Refusing, unittest.TestCase):
    def test_no_epochs(self):
        wrong = [thing for thing in OTHER_KINDS if thing != [0, 0, 0]] + [
            [()], THREE[:1], [()] * 7, [GOOD] * 7, (), GOOD, tuple(THREE), "two", [None],
            [None] * 7, ((), ()),
        ]
        for thing in wrong:
            with self.subTest(thing=thing):
                for door in DOORS:
                    self.refused(BadCount, door, thing)
                    self.refused(BadCount, door, thing, least=2, dim=0)

    def test_lights(self):
        for things, number in NO_LIGHTS:
            with self.subTest(things=things):
                for door in DOORS:
                    self.bad_lights(number, door, [things, GOOD, GOOD])
                    self.bad_lights(number, door, [GOOD, things], least=2)
                    self.bad_lights(number, door, [GOOD, (), SIXTEEN, (), GOOD, things])
                    self.bad_lights(0, door, [list(GOOD), things, GOOD])
        for door in DOORS:
            self.bad_lights(0, door, [0, 0, 0])

    def test_lights_of_the_first_epoch_that_has_wrong_ones(self):
        second = ((0, 0, 0), None)
        for door in DOORS:
            self.bad_lights(1, door, [GOOD, second, None])
            self.bad_lights(0, door, [GOOD, None, second])

    def test_least(self):
        for many in range(2, 7):
            for thing in not_from(2, many):
                with self.subTest(many=many, thing=thing):
                    for door in DOORS:
                        self.refused(BadCount, door, [()] * many, least=thing)
        for door in DOORS:
            # Three is more than there are epochs, also if nothing is said.
            self.refused(BadCount, door, THREE[:2])

    def test_dim(self):
        for thing in not_from(0, 99):
            with self.subTest(thing=thing):
                for door in DOORS:
                    self.refused(BadCount, door, THREE, dim=thing)
        for door in DOORS:
            self.assertEqual(door(THREE, dim=0), [])
            self.assertEqual(len(door(THREE, dim=99)), 1)

    def test_what_is_handed_in_first_is_refused_first(self):
        for door in DOORS:
            self.bad_lights(0, door, [None, GOOD], least=None, dim=None)
            least = self.refused(BadCount, door, THREE, least=None)
            dim = self.refused(BadCount, door, THREE, dim=None)
            both = self.refused(BadCount, door, THREE, least=None, dim=None)
            # All are BadCount; the words tell which was met.
            self.assertEqual(str(both), str(least))
            self.assertNotEqual(str(both), str(dim))
            all_three = self.refused(BadCount, door, [None] * 7, least=None, dim=None)
            self.assertNotIn(str(all_three), (str(least), str(dim)))

    def test_fifteen_tracks(self):
        self.assertEqual(len(tracks(apart(15), least=2)), 15)
        self.refused(BadCount, chosen, apart(15), least=2)
        crossed = [tuple((x, 0, 0) for x in range(3)), tuple((x, 9, 0) for x in range(5))]
        self.assertEqual(len(tracks(crossed, least=2)), 15)
        self.refused(BadCount, chosen, crossed, least=2)


if __name__ == "__main__":
    unittest.main()
