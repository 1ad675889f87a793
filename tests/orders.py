"""Orders in which moves are made, and the webs on which whole runs are tested."""

from random import Random

from leastroads.webs import Web
from tests.slow import greater_webs, small_webs, weighed


def row_web(weights):
    many = len(weights) + 1
    return weighed(many, [(house, house + 1) for house in range(many - 1)], weights)


def ring_web(weights):
    many = len(weights)
    pairs = sorted(tuple(sorted((house, (house + 1) % many))) for house in range(many))
    return weighed(many, pairs, weights)


def full_web(many, weights):
    return weighed(many, [(a, b) for a in range(many) for b in range(a + 1, many)], weights)


def star_web(weights):
    many = len(weights) + 1
    return weighed(many, [(0, house) for house in range(1, many)], weights)


def named_webs():
    """Webs of each shape: one house, two houses, rows, rings, stars, all ties; weights alike and not."""
    yield Web(1, ())
    yield row_web([5])
    for weights in ([1, 2], [2, 1], [3, 3, 3], [1, 3, 2], [3, 1, 2], list(range(9)), [7] * 9):
        yield row_web(weights)
        yield star_web(weights)
    for weights in ([5, 7, 6], [1, 1, 1], [1, 4, 2, 3], [2] * 5, [5, 1, 4, 2, 3, 0]):
        yield ring_web(weights)
    yield full_web(4, [1, 2, 3, 4, 5, 6])
    yield full_web(4, [0] * 6)
    yield full_web(6, list(range(15, 0, -1)))


def run_webs():
    """The webs of whole runs, of all sizes."""
    return list(named_webs()) + list(small_webs())[::9] + list(greater_webs())[::2]


def least_first(moves):
    return 0


def last_first(moves):
    return len(moves) - 1


def wakes_first(moves):
    return next((at for at, move in enumerate(moves) if move[0] == "wake"), len(moves) - 1)


def takes_first(moves):
    return next((at for at, move in enumerate(moves) if move[0] == "take"), 0)


def by_chance(seed):
    chance = Random(seed)
    return lambda moves: chance.randrange(len(moves))


def sleepers_late(seed):
    """By chance, but houses wake only if nothing else can be next."""
    chance = Random(seed)

    def choose(moves):
        takes = [at for at, move in enumerate(moves) if move[0] == "take"]
        return chance.choice(takes or list(range(len(moves))))
    return choose


def one_way_held(seed):
    """By chance, but the words of one way come only if nothing else can be next."""
    chance = Random(seed)
    held = chance.choice([(0, 1), (1, 0), (0, 2), (2, 1)])

    def choose(moves):
        others = [at for at, move in enumerate(moves) if move[1:] != held]
        return chance.choice(others or list(range(len(moves))))
    return choose


def orders():
    """New ways to choose which of some moves is next."""
    return [
        least_first, last_first, wakes_first, takes_first, by_chance(1), by_chance(2), sleepers_late(3),
        one_way_held(4), one_way_held(5),
    ]
