"""Falls that have prices, and the greatest loads within a purse (point 21)."""

from nextalive.bars import Purse, bar_stands, gathered, heaviest
from nextalive.lots import all_lots
from nextalive.pictures import down_behind


def cost(prices, machines):
    """What these different machines cost."""
    return sum([prices[machine] for machine in machines])


def purse_of(house, prices, history):
    """The least purse within which the history is."""
    down = ()
    purse = 0
    for event in history:
        down = down_behind(down, event)
        purse = max(purse, cost(prices, down))
    return purse


def gather_priced(house, machine, services, prices, purse):
    """("yes", a history at whose end these services are at the living machine), or ("no", a priced bar among them)."""
    return gathered(house.services(), machine, services, Purse(prices, purse))


def is_priced_bar(house, machine, prices, purse, value):
    """True if any value is a priced bar for the machine and the purse."""
    return bar_stands(house.services(), machine, Purse(prices, purse), value)


def worst_priced(house, machine, prices, purse):
    """(load, history): the greatest load of the machine within the purse, and a history at whose end it has it."""
    rows = house.services()
    return heaviest(rows, machine, all_lots(len(rows)), Purse(prices, purse))


def breaking_purse(house, machine, prices):
    """(purse, history): the least purse within which the machine bears too much, and how; None if it never does."""
    strength = house.strengths()[machine]
    # What is down at the dearest moment of a history is a lot of machines, so no other purse can be the least one.
    purses = sorted(set([cost(prices, lot) for lot in all_lots(len(house))]))
    for purse in purses:
        load, history = worst_priced(house, machine, prices, purse)
        if load > strength:
            return purse, history
    return None
