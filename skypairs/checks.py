"""What may be handed in: each check raises the refusal, or returns nothing."""

from skypairs.errors import BadCount, BadLights, BadRule, BadSlip

MOST_LIGHTS = 16
MOST_GLOW = 99

LIGHT_BOUNDS = ((-999, 999), (-999, 999), (0, 99))
RULE_BOUNDS = ((0, 200), (0, 99), (0, 99))
SLIP_BOUNDS = ((-999, 999), (-999, 999))


def is_number(thing, low, high):
    """Whether a thing is a whole number from low to high."""
    # Python counts True and False among the integers; here they are no numbers.
    return isinstance(thing, int) and not isinstance(thing, bool) and low <= thing <= high


def are_numbers(thing, bounds):
    """Whether a thing is a tuple of one number for each of the bounds, and within them."""
    if not isinstance(thing, tuple) or len(thing) != len(bounds):
        return False
    return all([is_number(part, low, high) for part, (low, high) in zip(thing, bounds)])


def check_lights(lights):
    """Refuse what is no tuple of at most sixteen lights, each at a place of its own."""
    if not isinstance(lights, tuple):
        raise BadLights(0)
    places = {}
    for number, light in enumerate(lights):
        if number == MOST_LIGHTS or not are_numbers(light, LIGHT_BOUNDS):
            raise BadLights(number)
        place = light[:2]
        if place in places:
            raise BadLights(number)
        places[place] = True


def check_rule(rule):
    """Refuse what is no rule."""
    if not are_numbers(rule, RULE_BOUNDS):
        raise BadRule("a rule is a tuple (reach, dim, near)")


def check_slip(slip):
    """Refuse what is no slip."""
    if not are_numbers(slip, SLIP_BOUNDS):
        raise BadSlip("a slip is a tuple (x, y)")


def check_count(thing, low, high):
    """Refuse what is no number from low to high."""
    if not is_number(thing, low, high):
        raise BadCount(f"a number from {low} to {high} is asked here")
