"""The net: saved houses that are led through faults, and letters on their way."""

from leastroads.disks import Disk
from leastroads.errors import BadDeeds, NoCut, NoDeed, NoNumber
from leastroads.kinds import is_list_or_tuple, is_number
from leastroads.rows import is_row, unsealed
from leastroads.savings import SavedHouse
from leastroads.webs import is_house, neighbours, require_house

MOST_TRIPS = 1000
# What stands in each sort of deed behind its name.
FORMS = {
    "wake": ("house",),
    "keep": ("house",),
    "post": ("house", "house"),
    "bring": ("letter",),
    "lose": ("letter",),
    "double": ("letter",),
    "spoil": ("letter", "number", "byte"),
    "send": ("house", "row"),
    "cut": ("house", "kept"),
}


def is_part(net, part, thing):
    """Whether a thing may stand in a deed as this part."""
    if part == "house":
        return is_house(net.web, thing)
    if part == "letter":
        return is_number(thing) and thing < len(net.letters)
    if part == "number":
        return is_number(thing)
    if part == "byte":
        return is_row((thing,))
    # The disk tells what may be kept of its blocks.
    return part == "kept" or is_row(thing)


def is_deed(net, thing):
    """Whether a thing is one of the nine sorts, of houses and letters that are there."""
    if not isinstance(thing, tuple) or len(thing) == 0:
        return False
    if not isinstance(thing[0], str) or thing[0] not in FORMS:
        return False
    form = FORMS[thing[0]]
    if len(thing) != len(form) + 1:
        return False
    return all([is_part(net, part, item) for part, item in zip(form, thing[1:])])


def wake(net, parts):
    """A house wakes."""
    return net.houses[parts[0]].deed(("wake",))


def keep(net, parts):
    """A house keeps its past."""
    return net.houses[parts[0]].keep()


def post(net, parts):
    """The letter of a house to a neighbour is put into the bag."""
    one, other = parts
    if other not in neighbours(net.web, one):
        raise NoDeed()
    net.letters.append((other, net.houses[one].letter(other)))


def bring(net, parts):
    """A letter is taken out of the bag and heard."""
    to, row = net.letters.pop(parts[0])
    return net.houses[to].deed(("hear", row))


def lose(net, parts):
    """A letter is taken out of the bag."""
    net.letters.pop(parts[0])


def double(net, parts):
    """A letter is put into the bag once more."""
    net.letters.append(net.letters[parts[0]])


def spoil(net, parts):
    """A byte of a letter is another one, and the letter is sealed of nothing then."""
    at, place, byte = parts
    to, row = net.letters[at]
    if place >= len(row):
        raise NoDeed()
    spoilt = row[:place] + (byte,) + row[place + 1:]
    if spoilt != row and unsealed(spoilt) != ():
        raise NoDeed()
    net.letters[at] = (to, spoilt)


def send(net, parts):
    """A row that is sealed of nothing is put into the bag."""
    if unsealed(parts[1]) != ():
        raise NoDeed()
    net.letters.append(parts)


def cut(net, parts):
    """The power of a house is cut, and it is made anew."""
    number, kept = parts
    disk = net.disks[number]
    try:
        disk.cut(kept)
    except NoCut:
        raise NoDeed()
    net.houses[number] = SavedHouse(net.web, number, disk)


DEEDS = {
    "wake": wake,
    "keep": keep,
    "post": post,
    "bring": bring,
    "lose": lose,
    "double": double,
    "spoil": spoil,
    "send": send,
    "cut": cut,
}


class Net:
    """A web's saved houses, their disks, and the bag of pairs (to, row)."""

    def __init__(self, web):
        self.web = web
        self.disks = [Disk() for _ in range(web.many)]
        self.houses = [SavedHouse(web, number, disk) for number, disk in enumerate(self.disks)]
        self.letters = []

    def house(self, number):
        """The house with this number, itself."""
        require_house(self.web, number)
        return self.houses[number]

    def disk(self, number):
        """A copy of the disk of the house with this number."""
        require_house(self.web, number)
        return self.disks[number].copy()

    def bag(self):
        """The list of the letters on their way."""
        return list(self.letters)

    def glass(self):
        """The glass: of all houses' states, and of the words that are not yet taken."""
        states = tuple([house.state() for house in self.houses])
        ways = [pair + (self.words_between(pair[0], pair[1]),) for pair in pairs_of(self.web)]
        return (states, tuple([way for way in ways if way[2] != ()]))

    def words_between(self, one, other):
        """The words that wait in a link, and are not yet taken at its other end."""
        taken = self.houses[other].taken_from(one)
        waiting = self.houses[one].waiting_for(other)
        return tuple([word for number, word in waiting if number >= taken])

    def deed(self, thing):
        """Does a deed; returns what it told, None of those that tell nothing."""
        if not is_deed(self, thing):
            raise NoDeed()
        action = DEEDS[thing[0]]
        return action(self, thing[1:])


def pairs_of(web):
    """The ascending list of the pairs (one, other) of neighbours, both ways."""
    return [(one, other) for one in range(web.many) for other in neighbours(web, one)]


def led_by(net, deeds):
    """Does deeds, one behind the other; returns the list of what they told."""
    if not is_list_or_tuple(deeds):
        raise BadDeeds(-1)
    told = []
    for at, thing in enumerate(deeds):
        try:
            told.append(net.deed(thing))
        except NoDeed:
            raise BadDeeds(at)
    return told


def round_trip(net):
    """Wakes all houses, and brings all words that wait, pair by pair."""
    for house in list(net.houses):
        if house.state()[0] == "asleep":
            house.deed(("wake",))
    for one, other in pairs_of(net.web):
        first, second = net.houses[one], net.houses[other]
        while first.waiting_for(other):
            second.deed(("hear", first.letter(other)))
            first.deed(("hear", second.letter(one)))


def is_settled(net):
    """Whether all houses are over, and no word waits."""
    if any([house.state()[0] != "over" for house in net.houses]):
        return False
    return not any([net.houses[one].waiting_for(other) for one, other in pairs_of(net.web)])


def settle(net, most):
    """Makes round trips until all is over, at most so many; returns how many they were."""
    if not is_number(most) or most > MOST_TRIPS:
        raise NoNumber()
    many = 0
    while many < most and not is_settled(net):
        round_trip(net)
        many += 1
    return many
