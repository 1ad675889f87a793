"""Benches: webs with the moves made on them, and what lines ask of them and of records."""

from leastroads.ends import bounds
from leastroads.errors import NoMove
from leastroads.films import drawn, drawn_marks, drawn_tree
from leastroads.glass import broken, fragments, marked
from leastroads.records import first_wrong, longest_chain, seen
from leastroads.runs import can_make, run_from_first
from leastroads.texts import moves_text, record_text, web_text
from leastroads.trees import least_tree, weight_of
from leastroads.webs import require_house

DONE = "ok"
NOTHING = "none"


class Bench:
    """A web that is kept, and the moves made on it."""

    def __init__(self, web):
        self.web = web
        self.made = []
        self.run = run_from_first(web)

    def make(self, move):
        """Makes a move."""
        if not can_make(self.run, move):
            raise NoMove()
        self.run.make(move)
        self.made.append(move)

    def take_back(self, many):
        """Takes the last moves back, all if there are fewer."""
        left = self.made[:max(0, len(self.made) - many)]
        self.made = []
        self.run = run_from_first(self.web)
        for move in left:
            self.make(move)

    def run_on(self):
        """Makes the least move, until there is none."""
        open_moves = self.run.open_moves()
        while open_moves:
            self.make(open_moves[0])
            open_moves = self.run.open_moves()

    def stands(self):
        """The glass that it stands at."""
        return self.run.stands()


def in_one_line(text):
    """A text with a sign in the place of each line feed."""
    return text.replace("\n", "|")


def or_none(text):
    """A text, or the word for none in the place of an empty one."""
    return text if text else NOTHING


def with_blanks(things):
    """Things, numbers or texts, with blanks between."""
    return " ".join([str(thing) for thing in things])


def wake_told(bench, numbers):
    """A house wakes."""
    bench.make(("wake", numbers[0]))
    return DONE


def take_told(bench, numbers):
    """A word is taken."""
    bench.make(("take", numbers[0], numbers[1]))
    return DONE


def back_told(bench, numbers):
    """Moves are taken back."""
    bench.take_back(numbers[0])
    return DONE


def out_told(bench, numbers):
    """The run goes to its end."""
    bench.run_on()
    return DONE


def source_told(bench, numbers):
    """The web."""
    return in_one_line(web_text(bench.web))


def done_told(bench, numbers):
    """The moves made."""
    return or_none(in_one_line(moves_text(bench.made)))


def next_told(bench, numbers):
    """What can be next."""
    return or_none(in_one_line(moves_text(bench.run.open_moves())))


def view_told(bench, numbers):
    """The picture of the glass."""
    return in_one_line(drawn(bench.web, bench.stands()))


def marks_told(bench, numbers):
    """The picture of the marks."""
    return in_one_line(drawn_marks(bench.web, bench.stands()))


def tree_told(bench, numbers):
    """The picture of the least tree."""
    return in_one_line(drawn_tree(bench.web, least_tree(bench.web)))


def steps_told(bench, numbers):
    """How many moves were made."""
    return str(len(bench.made))


def marked_told(bench, numbers):
    """The ties that are marked."""
    return or_none(with_blanks([f"{a}-{b}" for a, b in marked(bench.web, bench.stands())]))


def lots_told(bench, numbers):
    """The fragments."""
    lots = fragments(bench.web, bench.stands())
    return with_blanks([",".join([str(house) for house in lot]) for lot in lots])


def broken_told(bench, numbers):
    """The sums that do not hold."""
    return or_none(with_blanks(broken(bench.web, bench.stands())))


def state_told(bench, numbers):
    """The stage and the level of a house."""
    require_house(bench.web, numbers[0])
    return with_blanks(bench.stands()[0][numbers[0]][:2])


def weight_told(bench, numbers):
    """The weight of the least tree."""
    return str(weight_of(bench.web, least_tree(bench.web)))


def bounds_told(bench, numbers):
    """The numbers that counts keep to."""
    return with_blanks(bounds(bench.web))


def events_told(record, numbers):
    """The record."""
    return in_one_line(record_text(record))


def wrong_told(record, numbers):
    """The first event that is wrong."""
    return with_blanks(first_wrong(record) or (NOTHING,))


def chain_told(record, numbers):
    """The longest chain."""
    return str(longest_chain(record))


def seen_told(record, numbers):
    """How many events a house sees."""
    return str(len(seen(record, numbers[0])))


# What answers the lines of a web, and those of a record, by their first words.
OF_WEBS = {
    "wake": wake_told,
    "take": take_told,
    "back": back_told,
    "out": out_told,
    "source": source_told,
    "done": done_told,
    "next": next_told,
    "view": view_told,
    "marks": marks_told,
    "tree": tree_told,
    "steps": steps_told,
    "marked": marked_told,
    "lots": lots_told,
    "broken": broken_told,
    "state": state_told,
    "weight": weight_told,
    "bounds": bounds_told,
}
OF_RECORDS = {
    "events": events_told,
    "wrong": wrong_told,
    "chain": chain_told,
    "seen": seen_told,
}
# How many numbers stand behind the name; none in the lines that are not told here.
MANY_NUMBERS = {"wake": 1, "take": 2, "back": 1, "state": 1, "seen": 1}
