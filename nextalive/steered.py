"""A steerer, who may carry one service behind each event (points 26 and 27)."""

from nextalive.errors import NothingDone, NoWay
from nextalive.game import Game, carried, carries_in
from nextalive.houses import is_whole
from nextalive.leading import fall_of, rise_of
from nextalive.pictures import beginning, can_come, down_behind, is_picture, picture_behind


def carries(house, picture):
    """The list of all carries that can follow from the picture: None, then the tuples in ascending order."""
    return carries_in(house.services(), picture)


def behind_carry(picture, carry):
    """The picture behind a carry."""
    return carried(picture, carry)


def steered(house, most, *, limit=3000):
    """("keeps", a keeping list) if the steerer can keep the house within most, else ("breaks", a breaking dict)."""
    start = beginning(house)
    game = Game(house, most)
    if not game.is_calm(start):
        return "breaks", {}
    pictures = game.calm_from(start, limit=limit)
    lost = game.lost_among(pictures)
    if start in lost:
        return "breaks", lost
    return "keeps", [picture for picture in pictures if picture not in lost]


def is_keeping(house, most, value):
    """True if any value is a keeping list of the house for most."""
    if not isinstance(value, list):
        return False
    game = Game(house, most)
    kept = {}
    for picture in value:
        if not is_picture(house, picture) or picture in kept or not game.is_calm(picture):
            return False
        kept[picture] = True
    return beginning(house) in kept and all([_is_held(game, kept, picture) for picture in value])


def is_breaking(house, most, value):
    """True if any value is a breaking dict of the house for most."""
    if not isinstance(value, dict):
        return False
    start = beginning(house)
    game = Game(house, most)
    if not game.is_calm(start):
        return len(value) == 0
    for picture, row in value.items():
        if not is_picture(house, picture) or not game.is_calm(picture) or not _is_row(house, most, picture, row):
            return False
    return start in value and all([_is_broken(house, game, value, picture) for picture in list(value)])


class Steering:
    """A house that is led by events and carries, from the beginning on."""

    def __init__(self, house, most):
        self._house = house
        self._most = most
        self._picture = beginning(house)
        # What was ahead of each deed that is not undone: the picture, and whether the deed is an event.
        self._past = []
        # What the game has judged holds for good, so forks share it.
        self._game = Game(house, most)

    def __len__(self):
        return len(self._past)

    def picture(self):
        """The picture now."""
        return self._picture

    def fall(self, machine):
        """Let a living machine fall."""
        self._lead(fall_of(self._house, self._picture[0], machine, self._most))

    def rise(self, machine):
        """Let a machine that is down rise."""
        self._lead(rise_of(self._house, self._picture[0], machine))

    def carry(self, service, machine):
        """Carry a service to a machine, once behind an event; both are any values."""
        if not self._may_carry() or not self._can_carry(service, machine):
            raise NoWay(None)
        self._do(carried(self._picture, (service, machine)), False)

    def advice(self):
        """("yes", the first carry behind which the steerer can keep the house from now on), or ("no", None)."""
        for carry in self._offers():
            if self._game.can_keep(carried(self._picture, carry)):
                return "yes", carry
        return "no", None

    def undo(self):
        """Undo the last deed that is not undone."""
        if not self._past:
            raise NothingDone()
        self._picture, _ = self._past.pop()

    def fork(self):
        """A new steering that stands as this one does and goes its own way."""
        other = Steering(self._house, self._most)
        other._picture = self._picture
        other._past = list(self._past)
        other._game = self._game
        return other

    def _lead(self, event):
        self._do(picture_behind(self._house, self._picture, event), True)

    def _do(self, picture, is_event):
        self._past.append((self._picture, is_event))
        self._picture = picture

    def _may_carry(self):
        """True if the last deed that is not undone is an event."""
        return len(self._past) > 0 and self._past[-1][1]

    def _offers(self):
        return carries_in(self._house.services(), self._picture) if self._may_carry() else [None]

    def _can_carry(self, service, machine):
        # True == 1, so only integers may be looked up among the carries.
        if not is_whole(service) or not is_whole(machine):
            return False
        return (service, machine) in carries_in(self._house.services(), self._picture)


def _is_held(game, kept, picture):
    """True if behind each event that can come a carry leads to a picture that is kept; those that are kept are calm."""
    return all([any([calm in kept for calm in game.calm_behind(after)]) for _, after in game.events_at(picture)])


def _is_row(house, most, picture, value):
    """True if any value is a tuple (rank, event) of an integer from 0 and an event within most that can come next."""
    if not isinstance(value, tuple) or len(value) != 2:
        return False
    rank, event = value
    if not is_whole(rank) or rank < 0 or not can_come(house, picture[0], event):
        return False
    return len(down_behind(picture[0], event)) <= most


def _is_broken(house, game, rows, picture):
    """True if each carry behind the event leads to a picture that is not calm, or to one with a lesser rank."""
    rank, event = rows[picture]
    after = picture_behind(house, picture, event)
    return all([calm in rows and rows[calm][0] < rank for calm in game.calm_behind(after)])
