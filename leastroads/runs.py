"""Runs: moves that are made on a web, one behind the other."""

from leastroads.deeds import hear, is_none_then
from leastroads.errors import NoChoices
from leastroads.houses import House
from leastroads.kinds import is_list_or_tuple, is_number, is_tuple_of_numbers
from leastroads.states import begun
from leastroads.ways import ways_of


class Run:
    """A web while moves are made on it: the states of its houses, the words on their way."""

    def __init__(self, web, glass):
        self.web = web
        self.states = list(glass[0])
        self.on_way = ways_of(glass[1])

    def stands(self):
        """The glass that it stands at."""
        return (tuple(self.states), self.on_way.triples())

    def stage_of(self, number):
        """The stage of a house."""
        return self.states[number][0]

    def open_moves(self):
        """The ascending tuple of what can be next."""
        takes = [("take", one, other) for one, other in self.on_way.pairs()]
        wakes = [("wake", number) for number, state in enumerate(self.states) if state[0] == "asleep"]
        return tuple(takes + wakes)

    def live(self, number):
        """A house, ready for a deed."""
        return House(self.web, number, self.states[number])

    def would_hear(self, one, other):
        """Whether the first word on its way between two houses is a word for the second then."""
        return not is_none_then(self.live(other), one, self.on_way.first(one, other))

    def make(self, move):
        """Makes a move, and returns the words that were sent by it, as pairs (house, word)."""
        number = move[-1]
        house = self.live(number)
        if move[0] == "wake":
            house.wakes()
        else:
            hear(house, move[1], self.on_way.take(move[1], number))
        self.states[number] = house.told()
        for other, word in house.out:
            self.on_way.put(number, other, word)
        return house.out


def run_from_first(web):
    """A run that stands at the first glass."""
    return Run(web, (tuple([begun(web, house) for house in range(web.many)]), ()))


def can_make(run, thing):
    """Whether a thing is a move that can be made then."""
    # ("wake", True) is none, though Python holds it to be equal to ("wake", 1).
    if thing not in run.open_moves() or not is_tuple_of_numbers(thing[1:]):
        return False
    return thing[0] == "wake" or run.would_hear(thing[1], thing[2])


def require_choices(choices):
    """Raises NoChoices unless this is a list or tuple of numbers."""
    if not is_list_or_tuple(choices):
        raise NoChoices(-1)
    for at, choice in enumerate(choices):
        if not is_number(choice):
            raise NoChoices(at)


def chosen(moves, choices, at):
    """Which of these moves is made behind so many: the least one when choices are at an end."""
    if at < len(choices):
        return moves[choices[at] % len(moves)]
    return moves[0]


def events_of(run, move):
    """Makes a move, and returns the events of it: itself, and that its house is over by it."""
    number = move[-1]
    event = move if move[0] == "wake" else move + (run.on_way.first(move[1], number),)
    run.make(move)
    return [event, ("over", number)] if run.stage_of(number) == "over" else [event]


def played(web, choices):
    """Makes the chosen moves on a web to the end: the last glass, and the list of all events."""
    run = run_from_first(web)
    events = []
    many = 0
    moves = run.open_moves()
    while moves:
        events = events + events_of(run, chosen(moves, choices, many))
        many += 1
        moves = run.open_moves()
    return (run.stands(), events)
