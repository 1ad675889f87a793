"""What a house knows and does: words, states, and the deeds of a house."""

from leastroads.deeds import hear, is_none_then
from leastroads.errors import NotAsleep, NoWord
from leastroads.houses import House
from leastroads.kinds import is_number, is_tuple_of_numbers
from leastroads.webs import neighbours, ranks_by_pair, require_house, ties_of

LEVEL_LIMIT = 10
STAGES = ("asleep", "found", "seeks", "over")
MARKS = ("plain", "branch", "refused")
# What stands in each sort of word behind its name.
PARTS = {
    "join": ("level",),
    "begin": ("level", "core", "finds"),
    "ask": ("level", "core"),
    "yes": (),
    "no": (),
    "report": ("found",),
    "turn": (),
    "over": (),
}


def is_level(thing):
    """Whether a thing is a level."""
    return is_number(thing) and thing < LEVEL_LIMIT


def is_rank(ranks, thing):
    """Whether a thing is one of the ranks, which stand under their pairs."""
    return is_tuple_of_numbers(thing) and ranks.get(thing[1:]) == thing


def is_part(ranks, part, thing):
    """Whether a thing may stand in a word as this part."""
    if part == "level":
        return is_level(thing)
    if part == "finds":
        return is_number(thing) and thing < 2
    if part == "found" and thing == ():
        return True
    return is_rank(ranks, thing)


def has_form_of_word(ranks, thing):
    """Whether a thing is a word of a web with these ranks."""
    if not isinstance(thing, tuple) or len(thing) == 0:
        return False
    if not isinstance(thing[0], str) or thing[0] not in PARTS:
        return False
    parts = PARTS[thing[0]]
    if len(thing) != len(parts) + 1:
        return False
    return all([is_part(ranks, part, item) for part, item in zip(parts, thing[1:])])


def is_word(web, thing):
    """Whether a thing is a word of the web, by its form alone."""
    return has_form_of_word(ranks_by_pair(web), thing)


def is_neighbour(ties, thing):
    """Whether a thing is one of the neighbours under which these ties stand."""
    return is_number(thing) and thing in ties


def are_marks(ties, thing):
    """Whether a thing is a tuple with a mark for each tie."""
    if not isinstance(thing, tuple) or len(thing) != len(ties):
        return False
    return all([isinstance(mark, str) and mark in MARKS for mark in thing])


def is_best(ranks, ties, thing):
    """Whether a thing can be the best that a house knows of, or that it knows of none."""
    if not isinstance(thing, tuple) or len(thing) not in (0, 2):
        return False
    return thing == () or is_rank(ranks, thing[0]) and is_neighbour(ties, thing[1])


def is_wait(ranks, ties, thing):
    """Whether a thing is a pair of a neighbour and a word."""
    if not isinstance(thing, tuple) or len(thing) != 2:
        return False
    return is_neighbour(ties, thing[0]) and has_form_of_word(ranks, thing[1])


def are_waits(ranks, ties, thing):
    """Whether a thing is a tuple of pairs of a neighbour and a word."""
    return isinstance(thing, tuple) and all([is_wait(ranks, ties, pair) for pair in thing])


def is_state(web, house, thing):
    """Whether a thing is a state of a house, by its form alone."""
    require_house(web, house)
    if not isinstance(thing, tuple) or len(thing) != 9:
        return False
    stage, level, core, marks, count, back, best, asked, waits = thing
    ranks = ranks_by_pair(web)
    ties = ties_of(web, house)
    if not isinstance(stage, str) or stage not in STAGES or not is_level(level):
        return False
    if not (core == () or is_rank(ranks, core)) or not are_marks(ties, marks) or not is_number(count):
        return False
    if not (back is None or is_neighbour(ties, back)) or not (asked is None or is_neighbour(ties, asked)):
        return False
    return is_best(ranks, ties, best) and are_waits(ranks, ties, waits)


def begun(web, house):
    """The state of a house at first."""
    marks = tuple(["plain" for other in neighbours(web, house)])
    return ("asleep", 0, (), marks, 0, None, (), None, ())


def woken(web, house, state):
    """The pair (state, out) behind it that a house wakes."""
    if not is_state(web, house, state) or state[0] != "asleep":
        raise NotAsleep()
    live = House(web, house, state)
    live.wakes()
    return (live.told(), tuple(live.out))


def heard(web, house, state, sender, word):
    """The pair (state, out) behind it that a house hears a word from another one."""
    require_house(web, house)
    require_house(web, sender)
    live = House(web, house, state)
    if sender not in live.ties or not is_word(web, word) or is_none_then(live, sender, word):
        raise NoWord()
    hear(live, sender, word)
    return (live.told(), tuple(live.out))
