"""The errors of the package."""


class HouseError(ValueError):
    """The base class of all errors of the package."""


class BadHouse(HouseError):
    """No house: number is that of the first wrong service, or None."""

    def __init__(self, number):
        super().__init__("these strengths and services make no house")
        self.number = number


class BadOrder(HouseError):
    """No order of different machines of the house."""

    def __init__(self, order):
        super().__init__("this is no order of machines of the house")
        self.order = order


class NoFall(HouseError):
    """No machine that lives, so that it could fall."""

    def __init__(self, machine):
        super().__init__("this is no machine that lives")
        self.machine = machine


class NoRise(HouseError):
    """No machine that is down, so that it could rise."""

    def __init__(self, machine):
        super().__init__("this is no machine that is down")
        self.machine = machine


class TooManyDown(HouseError):
    """No more machines may fall: most machines are down."""

    def __init__(self, most):
        super().__init__("no more machines may be down")
        self.most = most


class NoWay(HouseError):
    """There is no way: needed is the least number with one, or None."""

    def __init__(self, needed):
        super().__init__("there is no way")
        self.needed = needed


class TooMany(HouseError):
    """There are more things than the limit allows."""

    def __init__(self, limit):
        super().__init__("there are more than the limit allows")
        self.limit = limit


class Unlike(HouseError):
    """Two houses of different sizes: sizes is that of the other one."""

    def __init__(self, sizes):
        super().__init__("the houses have different sizes")
        self.sizes = sizes


class NothingDone(HouseError):
    """Nothing is left that could be undone."""

    def __init__(self):
        super().__init__("there is nothing to undo")
