"""Reels and pictures, reckoned slowly by the document's words alone."""

from tests.slow import slow_ranks, slow_way
from tests.slow_glass import slow_first, slow_moved, slow_moves
from tests.slow_states import near
from tests.slow_texts import shown, slow_word_text


def glasses_of(web, moves):
    """The glass behind each number of moves."""
    found = [slow_first(web)]
    for move in moves:
        found.append(slow_moved(web, found[-1], move))
    return found


def slow_run(web, choose):
    """The moves of a whole run in which choose tells which of those that can be next is made."""
    glass, found = slow_first(web), []
    while slow_moves(web, glass):
        some = slow_moves(web, glass)
        found.append(some[choose(some)])
        glass = slow_moved(web, glass, found[-1])
    return found


class SlowReel:
    def __init__(self, web, moves, every):
        self.glasses, self.every = glasses_of(web, moves), every
        self.at, self.worked, self.kept = 0, 0, {0}

    def seek(self, at):
        starts = [start for start in self.kept | {self.at} if start <= at]
        start = max(starts)
        self.worked, self.at = at - start, at
        self.kept |= {number for number in range(start + 1, at + 1) if number % self.every == 0}

    def told(self):
        return (self.at, self.glasses[self.at], tuple(sorted(self.kept)), self.worked)

    def copy(self):
        twin = SlowReel.__new__(SlowReel)
        twin.glasses, twin.every, twin.at, twin.worked = self.glasses, self.every, self.at, self.worked
        twin.kept = set(self.kept)
        return twin


def slow_drawn(web, glass):
    rows = []
    for house, state in enumerate(glass[0]):
        stage, level, core, marks, count, back, best, asked, waits = state
        best = f"{shown(best[0])}>{best[1]}" if best else "-"
        rows.append(f"{house} {stage} {level} {shown(core)} {count} {shown(back)} {best} {shown(asked)}\n")
    for one, other, words in glass[1]:
        rows.append(f"{one}>{other} " + " ".join(slow_word_text(word, ",") for word in words) + "\n")
    return "".join(rows)


def slow_drawn_marks(web, glass):
    rows = []
    for house in range(web.many):
        marks = dict(zip(near(web, house), glass[0][house][3]))
        signs = [{"plain": "-", "branch": "+", "refused": "x"}.get(marks.get(other), ".") for other in range(web.many)]
        signs[house] = "o"
        rows.append("".join(signs) + "\n")
    return "".join(rows)


def slow_drawn_tree(web, tree):
    """A row for each house, in the order of the ways from house 0: one comes ahead of those beyond it."""
    ranks, rows = slow_ranks(web), []
    for trail in sorted(slow_way(tree, 0, house) for house in range(web.many)):
        row = "  " * (len(trail) - 1) + str(trail[-1])
        if len(trail) > 1:
            row += " " + str(ranks[tuple(sorted(trail[-2:]))][0])
        rows.append(row + "\n")
    return "".join(rows)
