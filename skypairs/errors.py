"""What the program refuses: one class for each kind of refusal."""


class SkyError(ValueError):
    """Any refusal."""


class BadLights(SkyError):
    """No lights; `number` is that of the first light that can't be."""

    def __init__(self, number):
        SkyError.__init__(self, f"light {number} can't be")
        self.number = number


class BadRule(SkyError):
    """No rule."""


class BadSlip(SkyError):
    """No slip."""


class BadCount(SkyError):
    """A number, or what holds numbers, that isn't among those allowed there."""


class NoLight(SkyError):
    """No such side, or no such name on it."""


class BadDeed(SkyError):
    """No deeds; `number` is that of the first deed that can't be."""

    def __init__(self, number):
        SkyError.__init__(self, f"deed {number} can't be")
        self.number = number


class Halted(SkyError):
    """A batch was ended by deed `number`, which was refused; `done` deeds stand."""

    def __init__(self, number, done):
        SkyError.__init__(self, f"deed {number} was refused, {done} stand")
        self.number = number
        self.done = done


class BadText(SkyError):
    """No text of lists; `row` is that of the first row that can't be."""

    def __init__(self, row):
        SkyError.__init__(self, f"row {row} can't be")
        self.row = row
