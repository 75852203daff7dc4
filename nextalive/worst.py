"""The greatest load of a machine, and what stands against a greater one (points 12 and 13)."""

from nextalive.lots import is_lot, lots_up_to
from nextalive.ways import ahead_of, led_through


def gather(house, machine, services, most):
    """("yes", a history at whose end these services are at the living machine), or ("no", a bar among them)."""
    rows = house.services()
    for number in services:
        if _is_far(rows[number], machine, most):
            return "no", ("far", (number,))
    held = _held([rows[number] for number in services], machine)
    if len(held) > most:
        return "no", ("many", tuple([number for number in services if rows[number][2] != "stay"]))
    comers, stuck = _row_of_comers(rows, machine, services, most)
    if stuck:
        return "no", ("stuck", stuck)
    staying = [ahead_of(rows[number][1], machine) for number in services if rows[number][2] == "stay"]
    coming = [_down_for(rows, machine, number, comers[:at]) for at, number in enumerate(comers)]
    # Those that stay come first, as nothing brings them away. The home of one that came is in all later targets.
    return "yes", led_through([*staying, *coming, held])


def is_bar(house, machine, most, value):
    """True if any value is a bar for the machine and most."""
    if not isinstance(value, tuple) or len(value) != 2:
        return False
    word, numbers = value
    rows = house.services()
    if not is_lot(numbers, len(rows)) or len(numbers) == 0:
        return False
    lot = [rows[number] for number in numbers]
    if word == "far":
        return len(lot) == 1 and _is_far(lot[0], machine, most)
    if word == "many":
        return _can_be_many(lot, machine) and len(_held(lot, machine)) > most
    if word == "stuck":
        return _can_be_stuck(lot, machine) and _last_comer(rows, machine, numbers, most) is None
    return False


def worst_load(house, machine, most):
    """(load, history): the greatest load of the machine within most, and a history at whose end it has this load."""
    rows = house.services()
    best = 0
    history = []
    for lot in lots_up_to(len(rows), len(rows)):
        load = sum([rows[number][0] for number in lot])
        if load > best:
            word, found = gather(house, machine, lot, most)
            if word == "yes":
                best = load
                history = found
    return best, history


def worst_loads(house, most):
    """The list of the greatest loads of all machines."""
    return [worst_load(house, machine, most)[0] for machine in range(len(house))]


def unsafe(house, most):
    """None if the house is safe within most, else (machine, load, history) for the first machine that is not."""
    for machine, strength in enumerate(house.strengths()):
        load, history = worst_load(house, machine, most)
        if load > strength:
            return machine, load, history
    return None


def margin(house):
    """The greatest number, at most that of the machines, within which the house is safe; -1 if there is none."""
    number = -1
    while number < len(house) and unsafe(house, number + 1) is None:
        number += 1
    return number


def _is_far(row, machine, most):
    order = row[1]
    return machine not in order or len(ahead_of(order, machine)) > most


def _can_be_many(lot, machine):
    return all([machine in order and rule != "stay" for (weight, order, rule) in lot])


def _can_be_stuck(lot, machine):
    return all([machine in order[1:] and rule == "home" for (weight, order, rule) in lot])


def _held(lot, machine):
    """The machines that are down whenever all these services are at the machine, which is in all their orders."""
    found = []
    for _, order, rule in lot:
        if rule == "first":
            found.extend(list(ahead_of(order, machine)))
        elif rule == "home" and order[0] != machine:
            found.append(order[0])
    return tuple(sorted(set(found)))


def _down_for(rows, machine, number, others):
    """The machines that are down when the service comes to the machine while the others, there by then, stay."""
    homes = [rows[other][1][0] for other in others]
    ahead = ahead_of(rows[number][1], machine)
    return tuple(sorted(set([*homes, *ahead])))


def _last_comer(rows, machine, numbers, most):
    """The first of the services that can come behind all the other ones, None if there is none."""
    for number in numbers:
        others = [other for other in numbers if other != number]
        if len(_down_for(rows, machine, number, others)) <= most:
            return number
    return None


def _row_of_comers(rows, machine, services, most):
    """(row, stuck): the services that go home, in a row in which they can come, and those that are left over.

    Who can come last of all can still do so if fewer come ahead of it, so no choice is ever taken back.
    """
    left = [number for number in services if _can_be_stuck([rows[number]], machine)]
    row = []
    while left:
        last = _last_comer(rows, machine, left, most)
        if last is None:
            return row, tuple(left)
        left = [number for number in left if number != last]
        row = [last, *row]
    return row, ()
