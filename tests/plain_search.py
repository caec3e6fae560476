"""The document's words as a plain search over all choices, for small lists, and lists to try."""

import random
from itertools import product

TURNED = (
    lambda x, y: (x, y),
    lambda x, y: (-y, x),
    lambda x, y: (-x, -y),
    lambda x, y: (y, -x),
    lambda x, y: (-x, y),
    lambda x, y: (y, x),
    lambda x, y: (x, -y),
    lambda x, y: (-y, -x),
)


def cost_of(light, mate, rule, slip):
    """What the pair costs, None if it may not be."""
    reach, dim, near = rule
    squares = (light[0] - mate[0] - slip[0]) ** 2 + (light[1] - mate[1] - slip[1]) ** 2
    apart = abs(light[2] - mate[2])
    if squares > reach ** 2 or apart > dim:
        return None
    return squares + near * apart


def all_choices(one, other, rule, slip=(0, 0)):
    """All choices, their pairs rising, each with its cost."""
    found = [((), 0)]
    for row, light in enumerate(one):
        longer = []
        for pairs, cost in found:
            taken = [column for _, column in pairs]
            for column, mate in enumerate(other):
                more = cost_of(light, mate, rule, slip)
                if more is not None and column not in taken:
                    longer.append((pairs + ((row, column),), cost + more))
        found = found + longer
    return found


def best_choices(one, other, rule, slip=(0, 0)):
    """All best choices, how many pairs they have, and their cost."""
    found = all_choices(one, other, rule, slip)
    most = max(len(pairs) for pairs, _ in found)
    least = min(cost for pairs, cost in found if len(pairs) == most)
    return [pairs for pairs, cost in found if (len(pairs), cost) == (most, least)], most, least


def in_all(choices):
    return sorted(set(choices[0]).intersection(*choices))


def in_some(choices):
    return sorted(set().union(*choices))


def turn_all(lights, turn):
    return tuple(TURNED[turn](x, y) + (glow,) for x, y, glow in lights)


def best_turn_and_slip(one, other, rule, far=2, turns=(0,)):
    found = []
    for at, turn in enumerate(turns):
        for x, y in product(range(-far, far + 1), repeat=2):
            _, most, least = best_choices(one, turn_all(other, turn), rule, (x, y))
            rank = (-most, least, at, abs(x) + abs(y), (x, y))
            found.append((rank, (turn, (x, y), most, least)))
    return min(found)[1]


def some_lights(chance, many, span, glows):
    """Lights by chance, at places of numbers up to span either way."""
    places = sorted(product(range(-span, span + 1), repeat=2))
    return tuple((x, y, chance.randint(0, glows)) for x, y in chance.sample(places, many))


def some_cases(seed, times, most):
    """Lists and rules by chance, narrow ones too, so that many choices are of one cost."""
    chance = random.Random(seed)
    for _ in range(times):
        span = chance.choice((1, 2, 3, 8))
        glows = chance.choice((0, 1, 4))
        one = some_lights(chance, chance.randint(0, most), span, glows)
        other = some_lights(chance, chance.randint(0, most), span, glows)
        rule = (chance.randint(0, 5), chance.randint(0, 3), chance.randint(0, 3))
        yield one, other, rule
