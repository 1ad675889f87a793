"""How a house hears words: which are none, which wait, and how each is done."""

GREATEST_LEVEL = 9


def is_none_then(house, sender, word):
    """Whether a word, right by its form, is none when it comes from a neighbour."""
    sort = word[0]
    mark = house.marks[sender]
    if house.stage == "over":
        return True
    if sort == "join":
        return mark == "refused"
    if sort == "ask":
        return False
    if sort in ("yes", "no"):
        return house.asked != sender
    if sort == "begin":
        return mark != "branch"
    # What is left is a report, a turn, an over.
    if mark != "branch" or house.stage == "asleep":
        return True
    return sort == "turn" and house.best == ()


def must_wait(house, sender, word):
    """Whether a word can't be done yet."""
    sort = word[0]
    if sort == "join":
        return word[1] >= house.level and house.marks[sender] == "plain"
    if sort == "ask":
        return word[1] > house.level
    return sort == "report" and sender == house.back and house.stage == "seeks"


def join_done(house, sender, word):
    """A fragment of a lower level is taken in, or two of a level are one of the next."""
    if word[1] < house.level:
        seeks = 1 if house.stage == "seeks" else 0
        house.marks[sender] = "branch"
        house.send(sender, ("begin", house.level, house.core, seeks))
        house.count = house.count + seeks
    elif house.marks[sender] == "branch":
        level = min(house.level + 1, GREATEST_LEVEL)
        house.send(sender, ("begin", level, house.ties[sender], 1))


def begin_done(house, sender, word):
    """The house is in a fragment of this level and core from now on, and tells it on."""
    _, house.level, house.core, finds = word
    house.stage = "seeks" if finds == 1 else "found"
    house.back = sender
    house.best = ()
    house.asked = None
    others = house.branches_but(sender)
    house.count = len(others) if finds == 1 else 0
    for other in others:
        house.send(other, word)
    if finds == 1:
        house.tries()


def ask_done(house, sender, word):
    """The sender learns whether the tie leads out of its fragment."""
    if word[2] != house.core:
        house.send(sender, ("yes",))
        return
    house.refuses(sender)
    # Who asked the sender needs no answer from it: each has the other's ask for one.
    if house.asked == sender:
        house.tries()
    else:
        house.send(sender, ("no",))


def yes_done(house, sender, word):
    """The tie leads out."""
    house.asked = None
    house.learns(house.ties[sender], sender)
    house.reports()


def no_done(house, sender, word):
    """The tie leads to a house of the same fragment."""
    house.refuses(sender)
    house.tries()


def report_done(house, sender, word):
    """One branch, or the other half of the fragment, has told its best."""
    found = word[1]
    if sender != house.back:
        house.count = max(0, house.count - 1)
        if found != ():
            house.learns(found, sender)
        house.reports()
    elif house.best != () and (found == () or found > house.best[0]):
        house.turns()
    elif house.best == () and found == ():
        house.ends(house.back)


def turn_done(house, sender, word):
    """The core turns on, but by one that waited until nothing was known."""
    if house.best != ():
        house.turns()


def over_done(house, sender, word):
    """All is over."""
    house.ends(sender)


DEEDS = {
    "join": join_done,
    "begin": begin_done,
    "ask": ask_done,
    "yes": yes_done,
    "no": no_done,
    "report": report_done,
    "turn": turn_done,
    "over": over_done,
}


def do(house, sender, word):
    """Does a word that need not wait."""
    deed = DEEDS[word[0]]
    deed(house, sender, word)


def first_ready(house):
    """The place of the first waiting word that need not wait any more, None without."""
    for at, pair in enumerate(house.waits):
        if not must_wait(house, pair[0], pair[1]):
            return at
    return None


def hear(house, sender, word):
    """The house hears a word that is one then: does it and what waited for it, or lets it wait."""
    if house.stage == "asleep" and word[0] in ("join", "ask"):
        house.wakes()
    if must_wait(house, sender, word):
        house.waits.append((sender, word))
        return
    do(house, sender, word)
    at = first_ready(house)
    while at is not None:
        ready = house.waits.pop(at)
        do(house, ready[0], ready[1])
        at = first_ready(house)
