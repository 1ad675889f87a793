"""Records: what strangers tell of a run, and what can be told from it."""

from leastroads.errors import BadRecord, NoMoment
from leastroads.kinds import is_number
from leastroads.runs import played, require_choices, run_from_first
from leastroads.states import has_form_of_word
from leastroads.ways import Ways
from leastroads.webs import is_house, ranks_by_pair, require_house

MOST_EVENTS = 3000


def is_event(web, ranks, thing):
    """Whether a thing is an event on a web with these ranks, by its form alone."""
    if not isinstance(thing, tuple) or len(thing) not in (2, 4) or not isinstance(thing[0], str):
        return False
    if len(thing) == 2:
        return thing[0] in ("wake", "over") and is_house(web, thing[1])
    sort, one, other, word = thing
    if sort != "take" or not is_house(web, one) or not is_house(web, other):
        return False
    return (min(one, other), max(one, other)) in ranks and has_form_of_word(ranks, word)


def require_events(web, thing):
    """Raises BadRecord unless a thing is a tuple of events, not too many."""
    if not isinstance(thing, tuple) or len(thing) > MOST_EVENTS:
        raise BadRecord(-1)
    ranks = ranks_by_pair(web)
    for at, event in enumerate(thing):
        if not is_event(web, ranks, event):
            raise BadRecord(at)


class Record:
    """What is told of a web: events, one behind the other."""

    def __init__(self, web, events):
        require_events(web, events)
        self.web = web
        self.events = events

    def __eq__(self, other):
        return isinstance(other, Record) and self.web == other.web and self.events == other.events


def house_of(event):
    """The house whose event this is."""
    return event[2] if event[0] == "take" else event[1]


def what_is_wrong(run, event):
    """The word for what is wrong with an event that is next in a run, None if nothing is."""
    if event[0] == "wake":
        return None if run.stage_of(event[1]) == "asleep" else "awake"
    if event[0] == "over":
        return None if run.stage_of(event[1]) == "over" else "early"
    first = run.on_way.first(event[1], event[2])
    if first is None:
        return "empty"
    return None if first == event[3] else "other"


def let_happen(run, event):
    """Does an event that can be done; returns the words that were sent in it, as pairs."""
    if event[0] == "over":
        return []
    return run.make(event[:3])


def first_wrong(record):
    """The pair (index, word) of the first event that is wrong, None if none is."""
    run = run_from_first(record.web)
    for at, event in enumerate(record.events):
        word = what_is_wrong(run, event)
        if word is not None:
            return (at, word)
        let_happen(run, event)
    return None


def events_done(record):
    """The events that can be done."""
    run = run_from_first(record.web)
    for at, event in enumerate(record.events):
        if what_is_wrong(run, event) not in (None, "early"):
            return record.events[:at]
        let_happen(run, event)
    return record.events


def glass_then(record, at):
    """The glass behind so many events."""
    events = events_done(record)
    if not is_number(at) or at > len(events):
        raise NoMoment()
    run = run_from_first(record.web)
    for event in events[:at]:
        let_happen(run, event)
    return run.stands()


def causes(record):
    """For each event that can be done the lot of the indexes that cause it directly."""
    run = run_from_first(record.web)
    # In the place of each word on its way stands the index of the event in which it was sent.
    sent = Ways()
    last = {}
    found = []
    for at, event in enumerate(events_done(record)):
        house = house_of(event)
        lot = [last[house]] if house in last else []
        if event[0] == "take":
            lot.append(sent.take(event[1], house))
        found.append(tuple(sorted(set(lot))))
        for other, _ in let_happen(run, event):
            sent.put(house, other, at)
        last[house] = at
    return tuple(found)


def vectors(record):
    """For each event that can be done how many events of each house are it, or cause it."""
    found = []
    for event, lot in zip(events_done(record), causes(record)):
        rows = [found[at] for at in lot]
        vector = [max([row[house] for row in rows], default=0) for house in range(record.web.many)]
        # The events of a house cause each other in a row, so its last one has counted all ahead.
        vector[house_of(event)] += 1
        found.append(tuple(vector))
    return tuple(found)


def longest_chain(record):
    """The greatest number of events of which each but the first is caused by the one ahead."""
    lengths = []
    for lot in causes(record):
        lengths.append(1 + max([lengths[at] for at in lot], default=0))
    return max(lengths, default=0)


def indexes_seen(record):
    """For each house the list of the indexes of its events, of those that can be done."""
    events = events_done(record)
    houses = range(record.web.many)
    return [[at for at, event in enumerate(events) if house_of(event) == house] for house in houses]


def seen(record, house):
    """The tuple of the events of a house, of those that can be done, in order."""
    require_house(record.web, house)
    return tuple([record.events[at] for at in indexes_seen(record)[house]])


def all_seen(record):
    """For each house what it sees."""
    return [[record.events[at] for at in row] for row in indexes_seen(record)]


def is_alike(record, thing):
    """Whether a thing is a Record of the same web in which each house sees the same."""
    if not isinstance(thing, Record) or thing.web != record.web:
        return False
    return all_seen(thing) == all_seen(record)


def next_house(rows, lots, done):
    """The least house whose next event has all that cause it ahead of it."""
    for house, row in enumerate(rows):
        if row and all([at in done for at in lots[row[0]]]):
            return house
    return None


def by_least(record):
    """The Record of the events that can be done, each time the next of the least house that can."""
    lots = causes(record)
    rows = indexes_seen(record)
    done = {}
    house = next_house(rows, lots, done)
    while house is not None:
        done[rows[house][0]] = True
        rows[house] = rows[house][1:]
        house = next_house(rows, lots, done)
    return Record(record.web, tuple([record.events[at] for at in done]))


def recorded(web, choices):
    """The Record of a run by these choices, with an over behind each move by which a house is over."""
    require_choices(choices)
    _, events = played(web, choices)
    return Record(web, tuple(events))
