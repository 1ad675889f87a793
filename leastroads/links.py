"""Links: what is put at one end is taken at the other, in order, each once, whatever is lost."""

from leastroads.errors import NoNumber, NoState
from leastroads.kinds import is_number

NUMBER_LIMIT = 2 ** 32
# So far beyond what is taken things are held.
WINDOW = 1000


def is_thing(thing):
    """Whether a thing is a tuple of integers, flags, strings, None and such tuples."""
    if not isinstance(thing, tuple):
        return False
    # A thing that was put may be nested deeper than calls may be.
    rows = [thing]
    while rows:
        row = rows.pop()
        for item in row:
            if isinstance(item, tuple):
                rows.append(item)
            elif item is not None and not isinstance(item, (int, str)):
                return False
    return True


def is_link_number(thing):
    """Whether a thing is a number that a thing on a link may have."""
    return is_number(thing) and thing < NUMBER_LIMIT


def is_pair(thing):
    """Whether a thing is a tuple of two."""
    return isinstance(thing, tuple) and len(thing) == 2


class Outgoing:
    """The end of a link at which things are put."""

    def __init__(self):
        self.many_known = 0
        self.things = []

    def put(self, thing):
        """Puts a thing behind the others; returns its number."""
        self.things.append(thing)
        return self.many_put() - 1

    def known(self, number):
        """Things of lesser numbers are taken; returns how many are let go of."""
        if not is_number(number) or number > self.many_put():
            raise NoNumber()
        gone = max(0, number - self.many_known)
        self.things = self.things[gone:]
        self.many_known += gone
        return gone

    def waiting(self):
        """The list of the pairs (number, thing) of those that are not known to be taken."""
        return [(self.many_known + at, thing) for at, thing in enumerate(self.things)]

    def many_put(self):
        """How many things were put."""
        return self.many_known + len(self.things)

    def state(self):
        """The pair (how many are known to be taken, the tuple of the things that wait)."""
        return (self.many_known, tuple(self.things))

    def copy(self):
        """Another Outgoing that goes on apart."""
        other = Outgoing()
        other.many_known = self.many_known
        other.things = list(self.things)
        return other


def is_outgoing_state(thing):
    """Whether a thing is a state of an Outgoing."""
    if not is_pair(thing) or not is_link_number(thing[0]) or not isinstance(thing[1], tuple):
        return False
    return all([is_thing(item) for item in thing[1]])


def outgoing_of(state):
    """The Outgoing with this state."""
    if not is_outgoing_state(state):
        raise NoState()
    end = Outgoing()
    end.many_known = state[0]
    end.things = list(state[1])
    return end


class Incoming:
    """The end of a link at which things are taken."""

    def __init__(self):
        self.many_taken = 0
        # The things held, under their numbers.
        self.ahead = {}

    def take(self, number, thing):
        """Hears a thing with a number; returns the list of the things that are taken now."""
        if not is_link_number(number):
            raise NoNumber()
        if self.many_taken <= number < self.many_taken + WINDOW and number not in self.ahead:
            self.ahead[number] = thing
        found = []
        while self.many_taken in self.ahead:
            found.append(self.ahead.pop(self.many_taken))
            self.many_taken += 1
        return found

    def taken(self):
        """How many things are taken."""
        return self.many_taken

    def held(self):
        """The lot of the numbers of the things that are held."""
        return tuple(sorted(self.ahead))

    def state(self):
        """The pair (how many are taken, the ascending tuple of the pairs (number, thing) held)."""
        return (self.many_taken, tuple([(number, self.ahead[number]) for number in self.held()]))

    def copy(self):
        """Another Incoming that goes on apart."""
        other = Incoming()
        other.many_taken = self.many_taken
        other.ahead = dict(self.ahead)
        return other


def are_held(taken, thing):
    """Whether a thing is a tuple of pairs (number, thing) that can be held behind so many taken."""
    if not isinstance(thing, tuple):
        return False
    least = taken + 1
    for pair in thing:
        if not is_pair(pair) or not is_number(pair[0]) or not is_thing(pair[1]):
            return False
        if not least <= pair[0] < taken + WINDOW:
            return False
        least = pair[0] + 1
    return True


def is_incoming_state(thing):
    """Whether a thing is a state of an Incoming."""
    return is_pair(thing) and is_link_number(thing[0]) and are_held(thing[0], thing[1])


def incoming_of(state):
    """The Incoming with this state."""
    if not is_incoming_state(state):
        raise NoState()
    end = Incoming()
    end.many_taken = state[0]
    end.ahead = {number: thing for number, thing in state[1]}
    return end
