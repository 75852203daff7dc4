"""Houses: machines with strengths, and services with orders of machines."""

from nextalive.errors import BadHouse, BadOrder

MOST_MACHINES = 5
MOST_SERVICES = 5
MOST_STRENGTH = 10 ** 10
MOST_WEIGHT = 10 ** 9
RULES = ("first", "home", "stay")


class House:
    """A house; it never changes once it is made."""

    def __init__(self, strengths, services):
        if not _are_strengths(strengths) or not _can_be_services(services):
            raise BadHouse(None)
        for number, service in enumerate(services):
            if not _is_service(service, len(strengths)):
                raise BadHouse(number)
        self._strengths = list(strengths)
        self._services = list(services)

    def __len__(self):
        return len(self._strengths)

    def __eq__(self, other):
        return isinstance(other, House) and self._strengths == other._strengths and self._services == other._services

    def strengths(self):
        """The list of the strengths of the machines."""
        return list(self._strengths)

    def services(self):
        """The list of the services, tuples (weight, order, rule)."""
        return list(self._services)

    def with_order(self, service, order):
        """The house in which the service has this order."""
        if not is_order(order, len(self)):
            raise BadOrder(order)
        changed = list(self._services)
        weight, _, rule = changed[service]
        changed[service] = (weight, order, rule)
        return House(self._strengths, changed)


def is_whole(value):
    """True if the value is an integer; a bool is none."""
    return isinstance(value, int) and not isinstance(value, bool)


def is_machine(value, machines):
    """True if any value is one of so many machines."""
    return is_whole(value) and 0 <= value < machines


def is_order(value, machines):
    """True if any value is a tuple of one or more different ones of so many machines."""
    if not isinstance(value, tuple) or not 1 <= len(value) <= machines:
        return False
    # A set takes only values that can be hashed, so the parts are checked first.
    return all([is_machine(part, machines) for part in value]) and len(set(value)) == len(value)


def _are_strengths(value):
    if not isinstance(value, list) or not 1 <= len(value) <= MOST_MACHINES:
        return False
    return all([is_whole(part) and 0 <= part <= MOST_STRENGTH for part in value])


def _can_be_services(value):
    return isinstance(value, list) and len(value) <= MOST_SERVICES


def _is_service(value, machines):
    if not isinstance(value, tuple) or len(value) != 3:
        return False
    weight, order, rule = value
    if not is_whole(weight) or not 1 <= weight <= MOST_WEIGHT:
        return False
    return is_order(order, machines) and isinstance(rule, str) and rule in RULES
