"""Webs to test with, and slow reckonings by the document's own definitions alone.

Nothing here asks the package for more than a Web and its attributes.
"""

from itertools import combinations, product
from random import Random

from leastroads.webs import Web


def reached(pairs, start):
    """The set of the houses to which one comes from a house by the pairs."""
    found = {start}
    grown = True
    while grown:
        more = {b for a, b in pairs if a in found} | {a for a, b in pairs if b in found}
        grown = not more <= found
        found |= more
    return found


def joined(many, pairs):
    return reached(pairs, 0) == set(range(many))


def trails(pairs, one, other):
    """All ways from one house to another that go over no tie twice, as tuples of houses."""
    found = [(one,)] if one == other else []
    for pair in pairs:
        if one in pair:
            beyond = pair[1] if pair[0] == one else pair[0]
            left = [each for each in pairs if each != pair]
            found += [(one,) + trail for trail in trails(left, beyond, other)]
    return found


def pairs_of(web):
    return tuple((a, b) for a, b, weight in web.ties)


def slow_ranks(web):
    return {(a, b): (weight, a, b) for a, b, weight in web.ties}


def slow_least(web):
    """The ties between whose ends no way of lighter ties alone leads."""
    ranks = slow_ranks(web)
    out = []
    for pair in sorted(ranks):
        lighter = [each for each in ranks if ranks[each] < ranks[pair]]
        if pair[1] not in reached(lighter, pair[0]):
            out.append(pair)
    return tuple(out)


def slow_trees(web):
    """All trees of a web: tuples of pairs with just one trail between any two houses."""
    pairs = pairs_of(web)
    return [some for some in combinations(pairs, web.many - 1) if joined(web.many, some)]


def slow_is_tree(web, some):
    """By the definition alone: just one trail between each two different houses."""
    houses = range(web.many)
    return all(len(trails(some, a, b)) == 1 for a in houses for b in houses if a != b)


def slow_way(tree, one, other):
    (trail,) = trails(tree, one, other)
    return trail


def slow_steps(houses):
    return [tuple(sorted(step)) for step in zip(houses, houses[1:])]


def slow_exchanges(web, tree):
    """Each pair of a tie that is not in the tree and one on its way that is not lighter."""
    ranks = slow_ranks(web)
    return [
        (pair, step)
        for pair in pairs_of(web) if pair not in tree
        for step in slow_steps(slow_way(tree, pair[0], pair[1]))
        if not ranks[step] < ranks[pair]
    ]


def slow_paper(web, tree):
    if slow_exchanges(web, tree):
        return None
    return tuple(slow_way(tree, a, b) for a, b in pairs_of(web) if (a, b) not in tree)


def joined_graphs(many):
    """All sets of pairs, as ascending tuples, by which so many houses are joined."""
    pairs = list(combinations(range(many), 2))
    for count in range(len(pairs) + 1):
        for some in combinations(pairs, count):
            if joined(many, some):
                yield some


def weighed(many, pairs, weights):
    return Web(many, tuple((a, b, weight) for (a, b), weight in zip(pairs, weights)))


def tiny_webs():
    """All webs of one to three houses with weights 0 to 2."""
    for many in (1, 2, 3):
        for pairs in joined_graphs(many):
            for weights in product(range(3), repeat=len(pairs)):
                yield weighed(many, pairs, weights)


def small_webs():
    """The tiny webs, and all sets of ties of four houses with some weights each."""
    yield from tiny_webs()
    chance = Random(4)
    for pairs in joined_graphs(4):
        count = len(pairs)
        yield weighed(4, pairs, [7] * count)
        yield weighed(4, pairs, list(range(count)))
        yield weighed(4, pairs, list(range(count, 0, -1)))
        yield weighed(4, pairs, [chance.choice((0, 1)) for _ in range(count)])
        yield weighed(4, pairs, [chance.choice((0, 5, 999999)) for _ in range(count)])


def web_by_chance(chance, many, extra, top):
    """A web of a tree by chance and some more ties, with weights up to top."""
    pairs = {tuple(sorted((house, chance.randrange(house)))) for house in range(1, many)}
    others = [pair for pair in combinations(range(many), 2) if pair not in pairs]
    chance.shuffle(others)
    pairs = sorted(pairs | set(others[:extra]))
    return weighed(many, pairs, [chance.randrange(top + 1) for _ in pairs])


def greater_webs():
    """Webs of 5 to 10 houses: trees, with more ties, with all ties; weights alike and not."""
    chance = Random(10)
    for many in range(5, 11):
        for extra in (0, 1, 3, many, 99):
            for top in (0, 3, 999999):
                yield web_by_chance(chance, many, extra, top)
