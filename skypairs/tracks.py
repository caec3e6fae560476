"""Lights that move evenly over epochs, and those of their tracks that share no light."""

from skypairs.checks import MOST_GLOW, check_count, check_lights
from skypairs.errors import BadCount

FEWEST_EPOCHS = 2
MOST_EPOCHS = 6
FEWEST_OF_TRACK = 2
FASTEST = 50
MOST_TRACKS = 14


def tracks(epochs, *, least=3, dim=99):
    """Tell all tracks with as many lights as asked, of glows that are not too far apart, rising."""
    check_epochs(epochs)
    check_count(least, FEWEST_OF_TRACK, len(epochs))
    check_count(dim, 0, MOST_GLOW)
    standing = [{(x, y): number for number, (x, y, _) in enumerate(lights)} for lights in epochs]
    found = []
    for start, speed in lines(epochs):
        numbers = numbers_along(start, speed, standing)
        glows = [lights[number][2] for lights, number in zip(epochs, numbers) if number is not None]
        if len(glows) >= least and max(glows) - min(glows) <= dim:
            found.append((start, speed, numbers))
    return found


def chosen(epochs, *, least=3, dim=99):
    """Tell the numbers of the tracks that have the most lights, none having a light of another one."""
    found = tracks(epochs, least=least, dim=dim)
    if len(found) > MOST_TRACKS:
        raise BadCount(f"{len(found)} tracks are more than {MOST_TRACKS}")
    return best_lot([numbers for _, _, numbers in found])


def check_epochs(epochs):
    """Refuse what is no list of two to six lists of lights."""
    if not isinstance(epochs, list) or not FEWEST_EPOCHS <= len(epochs) <= MOST_EPOCHS:
        raise BadCount(f"a list of {FEWEST_EPOCHS} to {MOST_EPOCHS} lists of lights is asked here")
    for lights in epochs:
        check_lights(lights)


def lines(epochs):
    """The start and speed of all that meet lights at two epochs at least, each once, rising."""
    found = {}
    for late in range(1, len(epochs)):
        for early in range(late):
            for light in epochs[early]:
                for further in epochs[late]:
                    line = line_through(light, early, further, late)
                    if line is not None:
                        found[line] = True
    return sorted(found)


def line_through(light, early, further, late):
    """The start and speed by which one light comes to where a later one stands, None if none does."""
    time = late - early
    aside = further[0] - light[0]
    along = further[1] - light[1]
    if aside % time != 0 or along % time != 0:
        return None
    speed = (aside // time, along // time)
    if abs(speed[0]) > FASTEST or abs(speed[1]) > FASTEST:
        return None
    return (light[0] - early * speed[0], light[1] - early * speed[1]), speed


def numbers_along(start, speed, standing):
    """The number of the light that is met at each epoch, None for none."""
    return tuple([
        numbers.get((start[0] + epoch * speed[0], start[1] + epoch * speed[1]))
        for epoch, numbers in enumerate(standing)
    ])


def best_lot(shapes):
    """Which tracks have the most lights without sharing one; of several lots the first one asked.

    Shapes are the numbers of the tracks' lights. A lot stands behind its rank: less its lights, then
    how many tracks it has; so the least of all is the one that is asked.
    """
    sharing = [[share_light(shape, mate) for mate in shapes] for shape in shapes]
    lots = [(0, 0, [])]
    for at, numbers in enumerate(shapes):
        more = light_count(numbers)
        lots = lots + [
            (less - more, many + 1, lot + [at])
            for less, many, lot in lots
            if not any([sharing[at][taken] for taken in lot])
        ]
    return min(lots)[2]


def light_count(numbers):
    """How many lights a track has."""
    return len([number for number in numbers if number is not None])


def share_light(numbers, others):
    """Whether two tracks have a light together."""
    return any([number is not None and number == other for number, other in zip(numbers, others)])
