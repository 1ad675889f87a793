"""The glass: what stands at a moment, what can be next, and the sums that always hold."""

from leastroads.errors import NoGlass, NoMove
from leastroads.groups import group_marks
from leastroads.kinds import is_number
from leastroads.runs import Run, can_make, run_from_first
from leastroads.states import has_form_of_word, is_state
from leastroads.trees import least_tree
from leastroads.webs import neighbours, ranks_by_pair


def is_way(ranks, thing):
    """Whether a thing is a triple (from, to, words) of neighbours with words on their way."""
    if not isinstance(thing, tuple) or len(thing) != 3:
        return False
    one, other, words = thing
    if not is_number(one) or not is_number(other) or (min(one, other), max(one, other)) not in ranks:
        return False
    if not isinstance(words, tuple) or len(words) == 0:
        return False
    return all([has_form_of_word(ranks, word) for word in words])


def are_ways(web, thing):
    """Whether a thing is the tuple of the ways of a glass."""
    ranks = ranks_by_pair(web)
    if not isinstance(thing, tuple) or not all([is_way(ranks, item) for item in thing]):
        return False
    # All words between two houses stand in one way, so no pair stands twice.
    return all([one[:2] < other[:2] for one, other in zip(thing, thing[1:])])


def are_states(web, thing):
    """Whether a thing is a tuple with a state for each house."""
    if not isinstance(thing, tuple) or len(thing) != web.many:
        return False
    return all([is_state(web, house, state) for house, state in enumerate(thing)])


def is_glass(web, thing):
    """Whether a thing is a glass of the web, by its form alone."""
    if not isinstance(thing, tuple) or len(thing) != 2:
        return False
    return are_states(web, thing[0]) and are_ways(web, thing[1])


def require_glass(web, thing):
    """Raises NoGlass unless a thing is a glass of the web."""
    if not is_glass(web, thing):
        raise NoGlass()


def first_glass(web):
    """The glass at first: all houses are asleep."""
    return run_from_first(web).stands()


def moves(web, glass):
    """The ascending tuple of what can be next."""
    require_glass(web, glass)
    return Run(web, glass).open_moves()


def moved(web, glass, move):
    """The glass behind a move."""
    require_glass(web, glass)
    run = Run(web, glass)
    if not can_make(run, move):
        raise NoMove()
    run.make(move)
    return run.stands()


def marks_at_ends(web, glass):
    """The dict of the marks of all ties at both ends, under the pairs (house, neighbour)."""
    found = {}
    for house, state in enumerate(glass[0]):
        for other, mark in zip(neighbours(web, house), state[3]):
            found[(house, other)] = mark
    return found


def ties_marked(web, glass, mark, ends):
    """The ascending tuple of the pairs of the ties that have a mark at so many ends at least."""
    marks = marks_at_ends(web, glass)
    pairs = [(a, b) for a, b, weight in web.ties]
    return tuple([(a, b) for a, b in pairs if [marks[(a, b)], marks[(b, a)]].count(mark) >= ends])


def marked(web, glass):
    """The ascending tuple of the ties that are branch at one end at least."""
    require_glass(web, glass)
    return ties_marked(web, glass, "branch", 1)


def lots_joined(many, pairs):
    """The ascending tuple of the lots of houses that hang together by the pairs."""
    marks = group_marks(many, pairs)
    lots = [tuple([house for house in range(many) if marks[house] == mark]) for mark in sorted(set(marks))]
    return tuple(sorted(lots))


def fragments(web, glass):
    """The ascending tuple of the lots of houses that hang together by ties branch at both ends."""
    require_glass(web, glass)
    return lots_joined(web.many, ties_marked(web, glass, "branch", 2))


def levels_hold(web, glass):
    """Whether each house of level l is in a fragment of 2 ** l houses at least."""
    lots = lots_joined(web.many, ties_marked(web, glass, "branch", 2))
    sizes = {house: len(lot) for lot in lots for house in lot}
    return all([sizes[house] >= 1 << state[1] for house, state in enumerate(glass[0])])


def counts_hold(glass):
    """Whether of each house at most as many reports are to come as it has branch ties."""
    return all([state[4] <= state[3].count("branch") for state in glass[0]])


def end_holds(web, glass):
    """Whether the least tree is branch at all ends if some house is over."""
    if not any([state[0] == "over" for state in glass[0]]):
        return True
    both = ties_marked(web, glass, "branch", 2)
    return all([pair in both for pair in least_tree(web)])


def broken(web, glass):
    """The words of the sums that do not hold."""
    require_glass(web, glass)
    least = least_tree(web)
    sums = (
        ("least", all([pair in least for pair in ties_marked(web, glass, "branch", 1)])),
        ("refused", not any([pair in least for pair in ties_marked(web, glass, "refused", 1)])),
        ("levels", levels_hold(web, glass)),
        ("counts", counts_hold(glass)),
        ("over", end_holds(web, glass)),
    )
    return tuple([word for word, holds in sums if not holds])
