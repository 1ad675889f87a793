"""What can be told of a glass, reckoned slowly by the document's words alone."""

from tests.slow import pairs_of, reached, slow_least
from tests.slow_states import near, slow_heard, slow_woken


def slow_first(web):
    return (tuple(
        ("asleep", 0, (), ("plain",) * len(near(web, house)), 0, None, (), None, ())
        for house in range(web.many)), ())


def slow_moves(web, glass):
    states, ways = glass
    takes = [("take", one, other) for one, other, words in ways]
    return tuple(sorted(takes + [("wake", house) for house in range(web.many) if states[house][0] == "asleep"]))


def slow_moved(web, glass, move):
    """The glass behind a move that can be next, None if its word is none then."""
    states, ways = list(glass[0]), {(one, other): list(words) for one, other, words in glass[1]}
    house = move[-1]
    if move[0] == "wake":
        told = slow_woken(web, house, states[house])
    else:
        told = slow_heard(web, house, states[house], move[1], ways[move[1:]].pop(0))
    if told is None:
        return None
    states[house] = told[0]
    for other, word in told[1]:
        ways.setdefault((house, other), []).append(word)
    left = sorted(pair + (tuple(words),) for pair, words in ways.items() if words)
    return (tuple(states), tuple(left))


def end_marks(web, glass, pair):
    """The marks of a tie at its two ends."""
    a, b = pair
    return (glass[0][a][3][near(web, a).index(b)], glass[0][b][3][near(web, b).index(a)])


def slow_marked(web, glass):
    return tuple(pair for pair in pairs_of(web) if "branch" in end_marks(web, glass, pair))


def slow_fragments(web, glass):
    both = [pair for pair in pairs_of(web) if end_marks(web, glass, pair) == ("branch", "branch")]
    return tuple(sorted({tuple(sorted(reached(both, house))) for house in range(web.many)}))


def slow_broken(web, glass):
    states, least, out = glass[0], slow_least(web), []
    if not set(slow_marked(web, glass)) <= set(least):
        out.append("least")
    if any("refused" in end_marks(web, glass, pair) for pair in least):
        out.append("refused")
    for lot in slow_fragments(web, glass):
        if any(len(lot) < 2 ** states[house][1] for house in lot) and "levels" not in out:
            out.append("levels")
    if any(state[4] > state[3].count("branch") for state in states):
        out.append("counts")
    if any(state[0] == "over" for state in states):
        if any(end_marks(web, glass, pair) != ("branch", "branch") for pair in least):
            out.append("over")
    return tuple(out)


def slow_bounds(web):
    many, ties = web.many, len(web.ties)
    top = max(level for level in range(9) if 2 ** level <= many)
    below = top - 1 if top else 0
    return (
        many * top, many * top, many * below + 2 * ties, many * below, ties, many * top,
        many - 2 if many > 1 else 0)
