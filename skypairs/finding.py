"""Lights turned, and the turn and slip by which most lights of two lists are paired."""

from skypairs.checks import check_count, check_lights, check_rule
from skypairs.errors import BadCount
from skypairs.pairing import FULL_WORTH, best_choice, total_worth, worth_table

FARTHEST = 5

# For each turn how often x and y are in the new x, then in the new y.
TURNS = (
    (1, 0, 0, 1),
    (0, -1, 1, 0),
    (-1, 0, 0, -1),
    (0, 1, -1, 0),
    (-1, 0, 0, 1),
    (0, 1, 1, 0),
    (1, 0, 0, -1),
    (0, -1, -1, 0),
)


def turned(lights, turn):
    """Tell the lights turned."""
    check_lights(lights)
    check_turn(turn)
    return turned_lights(lights, turn)


def sought(one, other, rule, *, far=2, turns=(0,)):
    """Tell the first best turn and slip of the second list, how many are paired, and the cost."""
    check_lights(one)
    check_lights(other)
    check_rule(rule)
    check_count(far, 0, FARTHEST)
    check_turns(turns)
    found = None
    most = 0
    for turn in turns:
        lights = turned_lights(other, turn)
        for slip in slips_up_to(far):
            worths = worth_table(one, lights, rule, slip)
            pairs, _ = best_choice(worths, len(other))
            worth = total_worth(worths, pairs)
            if found is None or worth > most:
                most = worth
                found = (turn, slip, len(pairs), FULL_WORTH * len(pairs) - worth)
    return found


def check_turn(turn):
    """Refuse what is no turn's number."""
    check_count(turn, 0, len(TURNS) - 1)


def check_turns(turns):
    """Refuse what is no tuple of one turn at least."""
    if not isinstance(turns, tuple) or len(turns) == 0:
        raise BadCount("a tuple of one turn at least is asked here")
    for turn in turns:
        check_turn(turn)


def turned_lights(lights, turn):
    """The lights by a turn, their glows as they are."""
    a, b, c, d = TURNS[turn]
    return tuple([(a * x + b * y, c * x + d * y, glow) for x, y, glow in lights])


def slips_up_to(far):
    """The slips of numbers up to far either way, in the order in which they go ahead."""
    amounts = list(range(-far, far + 1))
    ranked = sorted([(abs(x) + abs(y), x, y) for x in amounts for y in amounts])
    return [(x, y) for _, x, y in ranked]
