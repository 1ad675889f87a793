"""Trees of a web, its least tree, and papers that a tree is the least."""

from leastroads.errors import NoTree
from leastroads.groups import is_joined, merged
from leastroads.kinds import is_tuple_of_numbers
from leastroads.webs import by_ranks, ranks_by_pair, require_house


def least_tree(web):
    """The tree of the ties between whose ends no way of lighter ties alone leads."""
    marks = list(range(web.many))
    chosen = []
    for a, b in by_ranks(web):
        # All ties gone through so far are lighter, and their ways are in the marks.
        if marks[a] != marks[b]:
            chosen.append((a, b))
            marks = merged(marks, a, b)
    return tuple(sorted(chosen))


def is_tree(web, thing):
    """Whether a thing is a tree of the web."""
    if not isinstance(thing, tuple) or len(thing) != web.many - 1:
        return False
    ranks = ranks_by_pair(web)
    # Only what is a tuple of numbers can be looked up without harm.
    if not all([is_tuple_of_numbers(pair) and pair in ranks for pair in thing]):
        return False
    ascending = all([one < other for one, other in zip(thing, thing[1:])])
    # So few ties join all houses only if none of them closes a ring.
    return ascending and is_joined(web.many, thing)


def require_tree(web, thing):
    """Raises NoTree unless a thing is a tree of the web."""
    if not is_tree(web, thing):
        raise NoTree()


def tied_in(tree, house):
    """The houses to which a house is tied in a tree, ascending."""
    return sorted([b for a, b in tree if a == house] + [a for a, b in tree if b == house])


def way_between(tree, one, other):
    """The way in a tree between two houses, all known to be what they should be."""
    ways = {one: (one,)}
    # A tree is joined, so each time round at least one more house is reached.
    while other not in ways:
        for a, b in tree:
            if a in ways and b not in ways:
                ways[b] = ways[a] + (b,)
            elif b in ways and a not in ways:
                ways[a] = ways[b] + (a,)
    return ways[other]


def way(web, tree, one, other):
    """The houses on the way in a tree from one house to another, both told."""
    require_tree(web, tree)
    require_house(web, one)
    require_house(web, other)
    return way_between(tree, one, other)


def weight_of(web, tree):
    """The sum of the weights of a tree."""
    require_tree(web, tree)
    ranks = ranks_by_pair(web)
    return sum([ranks[pair][0] for pair in tree])


def pairs_beside(web, tree):
    """The pairs of the ties that are not in a tree, ascending."""
    return [(a, b) for a, b, weight in web.ties if (a, b) not in tree]


def pairs_on(houses):
    """The pairs of the ties that a way goes over."""
    return [(min(a, b), max(a, b)) for a, b in zip(houses, houses[1:])]


def exchanges(web, tree):
    """All pairs (tie not in the tree, tie on the way between its ends that is not lighter)."""
    ranks = ranks_by_pair(web)
    found = []
    for pair in pairs_beside(web, tree):
        for step in pairs_on(way_between(tree, pair[0], pair[1])):
            if ranks[step] > ranks[pair]:
                found.append((pair, step))
    return found


def better(web, tree):
    """The least exchange that makes a tree lighter by ranks, None if there is none."""
    require_tree(web, tree)
    return min(exchanges(web, tree), default=None)


def paper_of(web, tree):
    """The paper that a tree is the least, None if there is none."""
    if better(web, tree) is not None:
        return None
    return tuple([way_between(tree, a, b) for a, b in pairs_beside(web, tree)])


def is_paper(web, tree, thing):
    """Whether a thing is the paper that a tree is the least."""
    paper = paper_of(web, tree)
    if paper is None or not isinstance(thing, tuple):
        return False
    # A way with True in the place of 1 is equal to a right one, but is none.
    return all([is_tuple_of_numbers(row) for row in thing]) and thing == paper
