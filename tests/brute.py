"""What the tests hold the package against: points 5 to 8 told anew, and all pictures found by going through histories.

Nothing here calls the package, except that a house tells its machines, strengths and services.
"""

import itertools
import random
import time

RULES = ("first", "home", "stay")


def begin(house):
    return (), tuple(order[0] for _, order, _ in house.services())


def next_events(house, picture, most):
    """All events that can come next and behind which at most most machines are down."""
    down = picture[0]
    falls = [("fall", machine) for machine in range(len(house)) if machine not in down and len(down) < most]
    return falls + [("rise", machine) for machine in down if len(down) - 1 <= most]


def place_behind(service, place, event, down):
    _, order, rule = service
    word, machine = event
    living = [other for other in order if other not in down]
    if word == "fall":
        return place if place != machine else (living + [-1])[0]
    if machine not in order:
        return place
    if place == -1:
        return machine
    back = {"first": order[:order.index(place)], "home": order[:1], "stay": ()}[rule]
    return machine if machine in back else place


def picture_behind(house, picture, event):
    word, machine = event
    down = set(picture[0]) | {machine} if word == "fall" else set(picture[0]) - {machine}
    pairs = zip(house.services(), picture[1])
    return tuple(sorted(down)), tuple(place_behind(service, place, event, down) for service, place in pairs)


def end_of(house, history, most=5):
    """The picture behind a history; an AssertionError if the list is no history of the house within most."""
    assert isinstance(history, list), history
    picture = begin(house)
    for event in history:
        assert isinstance(event, tuple) and type(event[1]) is int, event
        assert event in next_events(house, picture, most), (history, event, most)
        picture = picture_behind(house, picture, event)
    return picture


def ends(house, most, start=None):
    """All ends of histories within most, each with the least number of events; or what comes of another picture."""
    start = begin(house) if start is None else start
    found = {start: 0}
    level = [start]
    while level:
        behind = []
        for picture in level:
            for event in next_events(house, picture, most):
                after = picture_behind(house, picture, event)
                if after not in found:
                    found[after] = found[picture] + 1
                    behind.append(after)
        level = behind
    return found


def all_pictures(house):
    """All pictures of the house, also those that are the end of no history."""
    found = []
    for down in lots(len(house)):
        rows = [[-1] + [machine for machine in order if machine not in down] for _, order, _ in house.services()]
        found += [(down, places) for places in itertools.product(*rows)]
    return found


def load_of(house, picture, machine):
    return sum(row[0] for row, place in zip(house.services(), picture[1]) if place == machine)


def lots(many):
    """All ascending tuples of different numbers below many: shorter ones first."""
    return [lot for size in range(many + 1) for lot in itertools.combinations(range(many), size)]


def all_orders(machines):
    """All orders of some of so many machines."""
    return [row for size in range(1, machines + 1) for row in itertools.permutations(range(machines), size)]


def some_houses(house_class, seed, many, machines, services):
    """So many houses of one to so many machines and no to so many services, the same ones each time."""
    source = random.Random(seed)
    found = []
    for _ in range(many):
        size = source.randint(1, machines)
        rows = []
        for _ in range(source.randint(0, services)):
            order = tuple(source.sample(range(size), source.randint(1, size)))
            rows.append((source.randint(1, 9), order, source.choice(RULES)))
        found.append(house_class([source.randint(0, 25) for _ in range(size)], rows))
    return found


def some_histories(house, seed, many, events, most):
    """So many histories of at most so many events within most, the same ones each time."""
    source = random.Random(seed)
    found = []
    for _ in range(many):
        picture, history = begin(house), []
        for _ in range(source.randint(0, events)):
            nexts = next_events(house, picture, most)
            if nexts:
                history.append(source.choice(nexts))
                picture = picture_behind(house, picture, history[-1])
        found.append(history)
    return found


def seconds_of(call):
    """How long a call takes."""
    start = time.perf_counter()
    call()
    return time.perf_counter() - start


def odd_values(house, run):
    """Values of all kinds; what is asked for any value must answer False or None for each of them."""
    deep = ()
    for _ in range(49):
        deep = (deep,)
    plain = [None, True, False, 0, 1, -1, 10 ** 30, "", "far", "fall", (), [], {}, {"far": (0,)}, {(): ()}]
    return plain + [deep, [deep], (deep, deep), ([], []), ((), []), ([], ()), ("", ""), (None, None), house, run]
