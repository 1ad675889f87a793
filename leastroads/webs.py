"""Webs: houses, their ties, and the ranks of these."""

from leastroads.errors import BadWeb, NoHouse, NoTie
from leastroads.groups import is_joined
from leastroads.kinds import is_number, is_tuple_of_numbers

MOST_HOUSES = 10
WEIGHT_LIMIT = 1000000


def is_tie(many, thing):
    """Whether a thing is a tie of a web of so many houses, by its form alone."""
    if not is_tuple_of_numbers(thing) or len(thing) != 3:
        return False
    return thing[0] < thing[1] < many and thing[2] < WEIGHT_LIMIT


def first_wrong_tie(many, ties):
    """The number of the first item that is no tie, or is out of order; None without."""
    ahead = ()
    for at, tie in enumerate(ties):
        if not is_tie(many, tie) or tie[:2] <= ahead:
            return at
        ahead = tie[:2]
    return None


def wrong_part(many, ties):
    """What BadWeb tells of these, None if they make a web."""
    if not is_number(many) or not 1 <= many <= MOST_HOUSES:
        return "many"
    if not isinstance(ties, tuple):
        return -1
    wrong = first_wrong_tie(many, ties)
    if wrong is None and not is_joined(many, [tie[:2] for tie in ties]):
        return "joined"
    return wrong


class Web:
    """Houses, numbered from 0 on, and the ties (a, b, weight) between them."""

    def __init__(self, many, ties):
        part = wrong_part(many, ties)
        if part is not None:
            raise BadWeb(part)
        self.many = many
        self.ties = ties

    def __eq__(self, other):
        return isinstance(other, Web) and self.many == other.many and self.ties == other.ties


def is_house(web, thing):
    """Whether a thing is the number of a house of the web."""
    return is_number(thing) and thing < web.many


def require_house(web, thing):
    """Raises NoHouse unless a thing is a house of the web."""
    if not is_house(web, thing):
        raise NoHouse()


def ranks_by_pair(web):
    """The dict of the ranks of all ties, under their pairs."""
    return {(a, b): (weight, a, b) for a, b, weight in web.ties}


def neighbours(web, house):
    """The ascending tuple of the houses that are tied to a house."""
    require_house(web, house)
    lesser = [a for a, b, weight in web.ties if b == house]
    greater = [b for a, b, weight in web.ties if a == house]
    return tuple(sorted(lesser + greater))


def ties_of(web, house):
    """The dict of the ranks of a house's ties, under its neighbours, these ascending."""
    ranks = ranks_by_pair(web)
    return {other: ranks[(min(house, other), max(house, other))] for other in neighbours(web, house)}


def rank(web, one, other):
    """The rank of the tie between two houses, in whatever order they are told."""
    require_house(web, one)
    require_house(web, other)
    ranks = ranks_by_pair(web)
    pair = (min(one, other), max(one, other))
    if pair not in ranks:
        raise NoTie()
    return ranks[pair]


def by_ranks(web):
    """The pairs of all ties, the lightest first."""
    ranks = sorted([(weight, a, b) for a, b, weight in web.ties])
    return tuple([(a, b) for weight, a, b in ranks])
