"""Posts: live houses, with the ends of links from and to each of their neighbours."""

from leastroads.errors import NoDeed, NoHouse, NoPast, NoWord
from leastroads.kinds import is_number
from leastroads.links import (
    Incoming, Outgoing, incoming_of, is_incoming_state, is_link_number, is_outgoing_state, is_pair,
    outgoing_of,
)
from leastroads.rows import is_row, sealed, unsealed
from leastroads.states import begun, heard, is_state, is_word, woken
from leastroads.webs import neighbours, require_house

# So many words go with a letter at most.
MOST_ITEMS = 20


def is_item(web, thing):
    """Whether a thing is a pair (number, word) that may stand in a letter."""
    return is_pair(thing) and is_link_number(thing[0]) and is_word(web, thing[1])


def are_items(web, thing):
    """Whether a thing is a tuple of such pairs, not too many."""
    if not isinstance(thing, tuple) or len(thing) > MOST_ITEMS:
        return False
    return all([is_item(web, item) for item in thing])


def is_letter_for(post, thing):
    """Whether a thing is a letter for a house from one of its neighbours."""
    if not isinstance(thing, tuple) or len(thing) != 5 or thing[0] != "letter":
        return False
    _, sender, to, taken, items = thing
    if not is_number(sender) or sender not in post.outs or not is_number(to) or to != post.number:
        return False
    if not is_number(taken) or taken > post.outs[sender].many_put():
        return False
    return are_items(post.web, items)


def letter_in(post, row):
    """The letter for a house of which a row is sealed, None if it is sealed of none."""
    for parcel in unsealed(row):
        if is_letter_for(post, parcel):
            return parcel
    return None


def behind_words(post, sender, words):
    """The pair (state, out) behind it that a house hears words in order, None if one is none then."""
    state = post.state()
    sent = []
    for word in words:
        try:
            told = heard(post.web, post.number, state, sender, word)
        except NoWord:
            return None
        state = told[0]
        sent.extend(told[1])
    return (state, tuple(sent))


class Post:
    """A house of a web: its state, and the ends of its links, under its neighbours."""

    def __init__(self, web, number):
        require_house(web, number)
        others = neighbours(web, number)
        self.web = web
        self.number = number
        self.now = begun(web, number)
        self.outs = {other: Outgoing() for other in others}
        self.ins = {other: Incoming() for other in others}

    def state(self):
        """The state that it is in."""
        return self.now

    def past(self):
        """The triple (state, outs, ins): its state, and those of its links' ends, by neighbours."""
        outs = tuple([end.state() for end in self.outs.values()])
        ins = tuple([end.state() for end in self.ins.values()])
        return (self.now, outs, ins)

    def deed(self, thing):
        """Does a deed; returns None of a wake, "none", "old" or "new" of a letter."""
        if thing == ("wake",) and self.now[0] == "asleep":
            self.changes(woken(self.web, self.number, self.now))
            return None
        if not is_pair(thing) or thing[0] != "hear" or not is_row(thing[1]):
            raise NoDeed()
        letter = letter_in(self, thing[1])
        return "none" if letter is None else self.hears(letter)

    def changes(self, told):
        """Its state is the first of a pair (state, out), and what it sends is put into its links."""
        state, out = told
        self.now = state
        for other, word in out:
            self.outs[other].put(word)

    def hears(self, letter):
        """Hears a letter that is one for it."""
        sender, taken, items = letter[1], letter[3], letter[4]
        ahead = self.past()
        end = self.ins[sender].copy()
        words = []
        for number, word in items:
            words.extend(end.take(number, word))
        told = behind_words(self, sender, words)
        # Nothing is known or taken yet: of a word that is none then nothing may be left.
        if told is None:
            return "none"
        self.outs[sender].known(taken)
        self.ins[sender] = end
        self.changes(told)
        return "old" if self.past() == ahead else "new"

    def letter(self, to):
        """The sealed row of its letter to a neighbour."""
        require_house(self.web, to)
        if to not in self.outs:
            raise NoHouse()
        items = tuple(self.waiting_for(to)[:MOST_ITEMS])
        return sealed(("letter", self.number, to, self.taken_from(to), items))

    def waiting_for(self, other):
        """The list of the pairs (number, word) that wait in its link to a neighbour."""
        return self.outs[other].waiting()

    def taken_from(self, other):
        """How many words it took from a neighbour."""
        return self.ins[other].taken()

    def goes_on_as(self, post):
        """It is in all as a Post of the same house from now on, and goes on apart."""
        self.now = post.state()
        self.outs = {other: end.copy() for other, end in post.outs.items()}
        self.ins = {other: end.copy() for other, end in post.ins.items()}

    def copy(self):
        """Another Post that goes on apart."""
        other = Post(self.web, self.number)
        other.goes_on_as(self)
        return other


def are_words(web, things):
    """Whether all these things are words of the web, by their form alone."""
    return all([is_word(web, thing) for thing in things])


def is_end_out(web, thing):
    """Whether a thing is a state of an outgoing end of words."""
    return is_outgoing_state(thing) and are_words(web, thing[1])


def is_end_in(web, thing):
    """Whether a thing is a state of an incoming end of words."""
    return is_incoming_state(thing) and are_words(web, [word for number, word in thing[1]])


def is_past(web, number, thing):
    """Whether a thing is a past of a house, by its form alone."""
    if not isinstance(thing, tuple) or len(thing) != 3 or not is_state(web, number, thing[0]):
        return False
    _, outs, ins = thing
    many = len(neighbours(web, number))
    if not isinstance(outs, tuple) or len(outs) != many or not isinstance(ins, tuple) or len(ins) != many:
        return False
    return all([is_end_out(web, end) for end in outs]) and all([is_end_in(web, end) for end in ins])


def post_of(web, number, past):
    """The Post with this past."""
    post = Post(web, number)
    if not is_past(web, number, past):
        raise NoPast()
    others = neighbours(web, number)
    post.now = past[0]
    post.outs = {other: outgoing_of(state) for other, state in zip(others, past[1])}
    post.ins = {other: incoming_of(state) for other, state in zip(others, past[2])}
    return post
