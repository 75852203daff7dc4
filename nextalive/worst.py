"""The greatest load of a machine, and what stands against a greater one (points 12 and 13)."""

from nextalive.bars import bar_stands, gathered, heaviest, purse_for
from nextalive.lots import all_lots


def gather(house, machine, services, most):
    """("yes", a history at whose end these services are at the living machine), or ("no", a bar among them)."""
    return gathered(house.services(), machine, services, purse_for(len(house), most))


def is_bar(house, machine, most, value):
    """True if any value is a bar for the machine and most."""
    return bar_stands(house.services(), machine, purse_for(len(house), most), value)


def worst_load(house, machine, most):
    """(load, history): the greatest load of the machine within most, and a history at whose end it has this load."""
    rows = house.services()
    return heaviest(rows, machine, all_lots(len(rows)), purse_for(len(house), most))


def worst_loads(house, most):
    """The list of the greatest loads of all machines."""
    return [worst_load(house, machine, most)[0] for machine in range(len(house))]


def unsafe(house, most):
    """None if the house is safe within most, else (machine, load, history) for the first machine that is not."""
    for machine, strength in enumerate(house.strengths()):
        load, history = worst_load(house, machine, most)
        if load > strength:
            return machine, load, history
    return None


def margin(house):
    """The greatest number, at most that of the machines, within which the house is safe; -1 if there is none."""
    number = -1
    while number < len(house) and unsafe(house, number + 1) is None:
        number += 1
    return number
