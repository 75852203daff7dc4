"""Surges: machines that fall because of what they must bear (point 17)."""

from nextalive.lots import lots_up_to
from nextalive.pictures import beginning, load_in, picture_behind
from nextalive.runs import run_of


def surge(house, history, machines):
    """(rounds, picture): the machines that fall at once, round by round, and the picture at the end."""
    return surge_from(house, run_of(house, history).picture(), machines)


def surge_from(house, picture, machines):
    """The same for a surge from a picture of the house."""
    rounds = []
    falling = machines
    while falling:
        rounds.append(falling)
        for machine in falling:
            picture = picture_behind(house, picture, ("fall", machine))
        falling = _too_loaded(house, picture)
    return rounds, picture


def worst_surge(house, most):
    """(number, machines): how many machines can be down behind a surge, and the first lot that lets it come."""
    start = beginning(house)
    best = (0, ())
    for machines in lots_up_to(len(house), most):
        _, picture = surge_from(house, start, machines)
        number = len(picture[0])
        if number > best[0]:
            best = (number, machines)
    return best


def _too_loaded(house, picture):
    """The ascending tuple of the living machines with a load above their strength."""
    loads = [load_in(house, picture, machine) for machine in range(len(house))]
    return tuple([machine for machine, strength in enumerate(house.strengths()) if loads[machine] > strength])
