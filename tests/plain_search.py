"""The document's words as a plain search over all there are, for small lists, and lists to try."""

import random
from fractions import Fraction
from itertools import combinations, product
from math import floor

TURNED = (
    lambda x, y: (x, y),
    lambda x, y: (-y, x),
    lambda x, y: (-x, -y),
    lambda x, y: (y, -x),
    lambda x, y: (-x, y),
    lambda x, y: (y, x),
    lambda x, y: (x, -y),
    lambda x, y: (-y, -x),
)


def cost_of(light, mate, rule, slip):
    """What the pair costs, None if it may not be."""
    reach, dim, near = rule
    squares = (light[0] - mate[0] - slip[0]) ** 2 + (light[1] - mate[1] - slip[1]) ** 2
    apart = abs(light[2] - mate[2])
    if squares > reach ** 2 or apart > dim:
        return None
    return squares + near * apart


def all_choices(one, other, rule, slip=(0, 0)):
    """All choices, their pairs rising, each with its cost."""
    found = [((), 0)]
    for row, light in enumerate(one):
        longer = []
        for pairs, cost in found:
            taken = [column for _, column in pairs]
            for column, mate in enumerate(other):
                more = cost_of(light, mate, rule, slip)
                if more is not None and column not in taken:
                    longer.append((pairs + ((row, column),), cost + more))
        found = found + longer
    return found


def best_choices(one, other, rule, slip=(0, 0)):
    """All best choices, how many pairs they have, and their cost."""
    found = all_choices(one, other, rule, slip)
    most = max(len(pairs) for pairs, _ in found)
    least = min(cost for pairs, cost in found if len(pairs) == most)
    return [pairs for pairs, cost in found if (len(pairs), cost) == (most, least)], most, least


def in_all(choices):
    return sorted(set(choices[0]).intersection(*choices))


def in_some(choices):
    return sorted(set().union(*choices))


def turn_all(lights, turn):
    return tuple(TURNED[turn](x, y) + (glow,) for x, y, glow in lights)


def best_turn_and_slip(one, other, rule, far=2, turns=(0,)):
    found = []
    for at, turn in enumerate(turns):
        for x, y in product(range(-far, far + 1), repeat=2):
            _, most, least = best_choices(one, turn_all(other, turn), rule, (x, y))
            rank = (-most, least, at, abs(x) + abs(y), (x, y))
            found.append((rank, (turn, (x, y), most, least)))
    return min(found)[1]


def some_lights(chance, many, span, glows):
    """Lights by chance, at places of numbers up to span either way."""
    places = sorted(product(range(-span, span + 1), repeat=2))
    return tuple((x, y, chance.randint(0, glows)) for x, y in chance.sample(places, many))


def some_cases(seed, times, most):
    """Lists and rules by chance, narrow ones too, so that many choices are of one cost."""
    chance = random.Random(seed)
    for _ in range(times):
        span = chance.choice((1, 2, 3, 8))
        glows = chance.choice((0, 1, 4))
        one = some_lights(chance, chance.randint(0, most), span, glows)
        other = some_lights(chance, chance.randint(0, most), span, glows)
        rule = (chance.randint(0, 5), chance.randint(0, 3), chance.randint(0, 3))
        yield one, other, rule


def all_tracks(epochs, least=3, dim=99):
    """All tracks, by trying each speed at each light."""
    found = []
    for speed in product(range(-50, 51), repeat=2):
        starts = [
            (light[0] - epoch * speed[0], light[1] - epoch * speed[1])
            for epoch, lights in enumerate(epochs) for light in lights
        ]
        for start in set(starts):
            if starts.count(start) < 2:
                continue
            numbers, glows = [], []
            for epoch, lights in enumerate(epochs):
                place = (start[0] + epoch * speed[0], start[1] + epoch * speed[1])
                there = [at for at, light in enumerate(lights) if light[:2] == place]
                numbers.append(there[0] if there else None)
                glows.extend(lights[at][2] for at in there)
            apart = [abs(a - b) for a, b in product(glows, repeat=2)]
            if len(glows) >= max(2, least) and max(apart) <= dim:
                found.append((start, speed, tuple(numbers)))
    return sorted(found, key=lambda track: track[:2])


def lots_of_tracks(found):
    """All lots of tracks that share no light, each as (how many lights, the tracks' numbers)."""
    lots = []
    for many in range(len(found) + 1):
        for lot in combinations(range(len(found)), many):
            lights = [
                (epoch, number) for at in lot
                for epoch, number in enumerate(found[at][2]) if number is not None
            ]
            if len(set(lights)) == len(lights):
                lots.append((len(lights), list(lot)))
    return lots


def best_lot(found):
    lots = lots_of_tracks(found)
    most = max(lights for lights, _ in lots)
    top = [lot for lights, lot in lots if lights == most]
    fewest = min(len(lot) for lot in top)
    return min(lot for lot in top if len(lot) == fewest)


def all_groups(lights, near):
    """Groups that are put together for as long as two lights of different ones are near."""
    parts = [[number] for number in range(len(lights))]
    for a, b in combinations(range(len(lights)), 2):
        squares = (lights[a][0] - lights[b][0]) ** 2 + (lights[a][1] - lights[b][1]) ** 2
        if squares > near ** 2:
            continue
        first = next(part for part in parts if a in part)
        second = next(part for part in parts if b in part)
        if first is not second:
            parts.remove(second)
            first.extend(second)
    return sorted(tuple(sorted(part)) for part in parts)


def all_blends(lights, near):
    found = []
    for numbers in all_groups(lights, near):
        glows = [lights[at][2] for at in numbers]
        weights = glows if any(glows) else [1 for _ in numbers]
        x = Fraction(sum(lights[at][0] * w for at, w in zip(numbers, weights)), sum(weights))
        y = Fraction(sum(lights[at][1] * w for at, w in zip(numbers, weights)), sum(weights))
        found.append(((floor(x), floor(y), min(99, sum(glows))), numbers))
    return found
