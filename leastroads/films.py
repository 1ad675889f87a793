"""Films: reels of moves that are sought there and back, and pictures of glasses and trees."""

from leastroads.errors import BadMoves, NoMoment, NoNumber
from leastroads.glass import require_glass
from leastroads.kinds import is_list_or_tuple, is_number
from leastroads.lines import number_text, rank_text, word_text
from leastroads.runs import Run, can_make, run_from_first
from leastroads.trees import require_tree, tied_in
from leastroads.webs import neighbours, ranks_by_pair

MOST_EVERY = 500
SIGNS_OF_MARKS = {"plain": "-", "branch": "+", "refused": "x"}
SIGN_OF_ITSELF = "o"
SIGN_OF_NO_TIE = "."


def require_moves(web, thing):
    """Raises BadMoves unless a thing is a list or tuple of moves that can be made in this order."""
    if not is_list_or_tuple(thing):
        raise BadMoves(-1)
    run = run_from_first(web)
    for at, move in enumerate(thing):
        if not can_make(run, move):
            raise BadMoves(at)
        run.make(move)


class Reel:
    """Moves, the glass behind the first of them, and glasses that are kept to go on from."""

    def __init__(self, web, moves, every):
        require_moves(web, moves)
        if not is_number(every) or not 1 <= every <= MOST_EVERY:
            raise NoNumber()
        self.web = web
        self.all_moves = tuple(moves)
        self.every = every
        self.at = 0
        self.here = run_from_first(web).stands()
        self.many_worked = 0
        # The glasses that are kept, under the numbers of the moves behind which they are.
        self.glasses = {0: self.here}

    def stands(self):
        """Behind how many moves it stands."""
        return self.at

    def glass_there(self):
        """The glass where it stands."""
        return self.here

    def seek(self, at):
        """Stands behind so many moves."""
        if not is_number(at) or at > len(self.all_moves):
            raise NoMoment()
        start = max([number for number in self.glasses if number <= at])
        glass = self.glasses[start]
        if start < self.at <= at:
            start = self.at
            glass = self.here
        run = Run(self.web, glass)
        for number in range(start, at):
            run.make(self.all_moves[number])
            if (number + 1) % self.every == 0:
                self.glasses[number + 1] = run.stands()
        self.many_worked = at - start
        self.at = at
        self.here = run.stands()

    def kept(self):
        """The ascending tuple of the numbers of moves behind which glasses are kept."""
        return tuple(sorted(self.glasses))

    def worked(self):
        """How many moves were made by the last seek."""
        return self.many_worked

    def copy(self):
        """Another Reel that goes on apart."""
        other = Reel(self.web, self.all_moves, self.every)
        other.at = self.at
        other.here = self.here
        other.many_worked = self.many_worked
        other.glasses = dict(self.glasses)
        return other


def rows_text(rows):
    """The text of rows, each closed."""
    return "".join([row + "\n" for row in rows])


def marks_row(web, house, state):
    """The row of the marks of a house in a state."""
    signs = {other: SIGNS_OF_MARKS[mark] for other, mark in zip(neighbours(web, house), state[3])}
    signs[house] = SIGN_OF_ITSELF
    return "".join([signs.get(other, SIGN_OF_NO_TIE) for other in range(web.many)])


def drawn_marks(web, glass):
    """The picture of how each house has marked its ties."""
    require_glass(web, glass)
    return rows_text([marks_row(web, house, state) for house, state in enumerate(glass[0])])


def best_text(best):
    """The best that a house knows of, as it is drawn."""
    return f"{rank_text(best[0])}>{best[1]}" if best else rank_text(best)


def house_row(house, state):
    """The row of a house in a state."""
    stage, level, core = state[:3]
    count, back, best, asked = state[4:8]
    parts = [str(house), stage, str(level), rank_text(core), number_text(count)]
    return " ".join(parts + [number_text(back), best_text(best), number_text(asked)])


def way_row(one, other, words):
    """The row of a way."""
    return " ".join([f"{one}>{other}"] + [word_text(word).replace(" ", ",") for word in words])


def drawn(web, glass):
    """The picture of what all houses know, and of the words on their way."""
    require_glass(web, glass)
    houses = [house_row(house, state) for house, state in enumerate(glass[0])]
    return rows_text(houses + [way_row(one, other, words) for one, other, words in glass[1]])


def rows_beyond(ranks, tree, house, ahead, deep):
    """The rows of what is beyond a house, seen from the one ahead, so deep in a tree."""
    rows = []
    for other in tied_in(tree, house):
        if other != ahead:
            weight = ranks[(min(house, other), max(house, other))][0]
            rows.append("  " * deep + f"{other} {weight}")
            rows.extend(rows_beyond(ranks, tree, other, house, deep + 1))
    return rows


def drawn_tree(web, tree):
    """The picture of a tree, house 0 first."""
    require_tree(web, tree)
    return rows_text(["0"] + rows_beyond(ranks_by_pair(web), tree, 0, None, 1))
