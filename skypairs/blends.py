"""Lights that stand so near that they look like one, blended, and paired with a coarse list."""

from skypairs.checks import MOST_GLOW, check_count, check_lights, check_rule
from skypairs.pairing import best_choice, reached, total_cost, worth_table

MOST_NEAR = 200


def groups(lights, near):
    """Tell the numbers of lights that hang together by nearness, as rising tuples, rising."""
    check_lights(lights)
    check_near(near)
    return near_groups(lights, near)


def blends(lights, near):
    """Tell (light, numbers) of each group: the light that its lights look like, and their numbers."""
    check_lights(lights)
    check_near(near)
    return near_blends(lights, near)


def matched(coarse, fine, near, rule):
    """Tell the pairs of a best choice of a coarse list and the blends of a fine one, and its cost."""
    check_lights(coarse)
    check_lights(fine)
    check_near(near)
    check_rule(rule)
    # Blends may stand at one place, unlike lights that are handed in: so they aren't checked.
    blended = near_blends(fine, near)
    worths = worth_table(coarse, [light for light, _ in blended], rule, (0, 0))
    pairs, _ = best_choice(worths, len(blended))
    return [(number, blended[at][1]) for number, at in pairs], total_cost(worths, pairs)


def check_near(near):
    """Refuse what is no nearness."""
    check_count(near, 0, MOST_NEAR)


def near_groups(lights, near):
    """The numbers of lights that hang together, each group once."""
    ways = [
        [number for number, mate in enumerate(lights) if are_near(light, mate, near)]
        for light in lights
    ]
    hanging = [tuple(sorted(reached(ways, number))) for number in range(len(lights))]
    # Every light tells its whole group: the one told by its first light is kept.
    return [group for number, group in enumerate(hanging) if group[0] == number]


def are_near(light, mate, near):
    """Whether two lights are near."""
    aside = light[0] - mate[0]
    along = light[1] - mate[1]
    return aside * aside + along * along <= near * near


def near_blends(lights, near):
    """What each group of lights looks like, and its numbers."""
    return [(blend([lights[at] for at in group]), group) for group in near_groups(lights, near)]


def blend(lights):
    """The one light that some look like."""
    glows = [light[2] for light in lights]
    weights = glows if sum(glows) > 0 else [1] * len(glows)
    x = weighted_mean([light[0] for light in lights], weights)
    y = weighted_mean([light[1] for light in lights], weights)
    return x, y, min(sum(glows), MOST_GLOW)


def weighted_mean(numbers, weights):
    """The mean of numbers that count by their weights, rounded down."""
    return sum([number * weight for number, weight in zip(numbers, weights)]) // sum(weights)
