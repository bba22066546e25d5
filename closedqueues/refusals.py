"""The errors that a call can answer, a class for each code."""


class Refusal(Exception):
    """A call that is refused: its code is the whole answer."""

    def __init__(self, code):
        Exception.__init__(self)
        self.code = code


class NoInstance(Refusal):
    """Nothing has been created yet."""

    def __init__(self):
        Refusal.__init__(self, -11)


class NoSuchStationOrClass(Refusal):
    """There is no station or class of this number."""

    def __init__(self):
        Refusal.__init__(self, -2)


class NoCustomers(Refusal):
    """The class has no customers."""

    def __init__(self):
        Refusal.__init__(self, -6)


class OutOfRange(Refusal):
    """An argument is outside its range."""

    def __init__(self):
        Refusal.__init__(self, -22)


class PopulationsTooLarge(Refusal):
    """The product of all populations, each increased by 1, would be too great."""

    def __init__(self):
        Refusal.__init__(self, -28)


class NoResult(Refusal):
    """The network or the station is not one for which there is a result."""

    def __init__(self):
        Refusal.__init__(self, -33)
