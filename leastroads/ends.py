"""Ends: a run to its end, and how many words of each sort there can be."""

from leastroads.runs import played, require_choices
from leastroads.states import PARTS


def counts_of(events):
    """How many words of each sort are taken in the events, in the order of the sorts."""
    sorts = [event[3][0] for event in events if event[0] == "take"]
    return tuple([sorts.count(sort) for sort in PARTS])


def run_out(web, choices):
    """The last glass of a run by these choices, and how many words of each sort were taken."""
    require_choices(choices)
    glass, events = played(web, choices)
    return (glass, counts_of(events))


def bounds(web):
    """The greatest numbers of joins and turns, begins, asks, yeses, noes, reports, overs."""
    many = web.many
    ties = len(web.ties)
    # The greatest level: a fragment of level l has 2 ** l houses at least.
    top = many.bit_length() - 1
    below = max(0, top - 1)
    asks = many * below + 2 * ties
    return (many * top, many * top, asks, many * below, ties, many * top, max(0, many - 2))
