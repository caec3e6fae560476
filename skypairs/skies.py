"""Two lists of lights that change, and what becomes of their sure pairs."""

from skypairs.checks import check_lights, check_rule, is_number
from skypairs.errors import BadDeed, Halted, NoLight, SkyError
from skypairs.pairing import sure_pairs, worth_table

# How many things a deed is, its word among them.
DEED_SIZES = {"put": 3, "drop": 3, "move": 4}


class Sky:
    """Two sides of lights that have names, and a rule by which they are paired."""

    def __init__(self, one, other, rule):
        check_lights(one)
        check_lights(other)
        check_rule(rule)
        self.rule = rule
        # A dict keeps the order in which its keys came: so each side's lights stand in turn.
        self.sides = [dict(enumerate(one)), dict(enumerate(other))]
        self.next_names = [len(one), len(other)]
        self.diary = []
        self.idle = True

    def lights(self):
        """Tell both sides' tuples of (name, light), in turn."""
        return tuple([tuple(side.items()) for side in self.sides])

    def pairs(self):
        """Tell the names of all sure pairs, rising."""
        names, mate_names = [list(side) for side in self.sides]
        lights, mates = [list(side.values()) for side in self.sides]
        worths = worth_table(lights, mates, self.rule, (0, 0))
        # Names rise as the lights stand in turn, so the pairs stay rising.
        return [(names[row], mate_names[column]) for row, column in sure_pairs(worths, len(mates))]

    def put(self, side, light):
        """Put a light behind a side's; tell its name and which sure pairs are gone and new."""
        check_side(side)
        here = self.sides[side]
        check_beside(list(here.values()), light)
        ahead = self.pairs()
        name = self.next_names[side]
        self.next_names[side] += 1
        here[name] = light
        gone, new = changes(ahead, self.pairs())
        return name, gone, new

    def drop(self, side, name):
        """Take a light out; tell which sure pairs are gone and new."""
        check_side(side)
        here = self.sides[side]
        check_name(here, name)
        ahead = self.pairs()
        del here[name]
        return changes(ahead, self.pairs())

    def move(self, side, name, light):
        """Make a light another one at its place in turn; tell which sure pairs are gone and new."""
        check_side(side)
        here = self.sides[side]
        check_name(here, name)
        check_beside([here[known] for known in here if known != name], light)
        ahead = self.pairs()
        here[name] = light
        return changes(ahead, self.pairs())

    def batch(self, deeds, *, keep=True):
        """Do deeds in turn and tell what each told; one that is refused ends it."""
        check_deeds(deeds)
        sides = [dict(side) for side in self.sides]
        next_names = list(self.next_names)
        answers = []
        self.idle = False
        self.diary.append("begun")
        try:
            for deed in deeds:
                answers.append(self.do(deed))
                self.diary.append(deed[0])
        except SkyError as why:
            number = len(answers)
            if keep is True:
                raise Halted(number, number) from why
            self.sides = sides
            self.next_names = next_names
            raise Halted(number, 0) from why
        finally:
            self.diary.append("ended")
            self.idle = True
        return answers

    def do(self, deed):
        """Do one deed and tell what it told."""
        word, *things = deed
        if word == "put":
            return self.put(*things)
        if word == "drop":
            return self.drop(*things)
        return self.move(*things)

    def told(self):
        """Tell of each batch that it was begun, the words of the deeds done, that it was ended."""
        return list(self.diary)

    def is_idle(self):
        """Tell whether no batch is under way."""
        return self.idle


def check_side(side):
    """Refuse what is no side."""
    if not is_number(side, 0, 1):
        raise NoLight("the sides are 0 and 1")


def check_name(here, name):
    """Refuse what is no name of a light that stands here."""
    # The name is looked for among all, since what is no number may not be asked of a dict.
    if not any([is_number(name, known, known) for known in here]):
        raise NoLight("no light of this side has this name")


def check_beside(others, light):
    """Refuse what can't stand behind the others of its side: its number is how many they are."""
    check_lights((*others, light))


def check_deeds(deeds):
    """Refuse what is no list of deeds."""
    if not isinstance(deeds, list):
        raise BadDeed(0)
    for number, deed in enumerate(deeds):
        if not is_deed(deed):
            raise BadDeed(number)


def is_deed(thing):
    """Whether a thing is a tuple of a deed's word and as many things as it takes."""
    if not isinstance(thing, tuple) or len(thing) == 0 or not isinstance(thing[0], str):
        return False
    return DEED_SIZES.get(thing[0]) == len(thing)


def changes(ahead, behind):
    """Which pairs are gone and which are new, rising."""
    gone = [pair for pair in ahead if pair not in behind]
    new = [pair for pair in behind if pair not in ahead]
    return gone, new
