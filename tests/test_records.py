"""Records: what is one, what is wrong, glasses, causes, vectors, chains, what is alike, orders."""

import unittest
from random import Random

from leastroads.ends import run_out
from leastroads.errors import BadRecord, NoChoices, NoHouse, NoMoment
from leastroads.glass import broken, first_glass
from leastroads.records import (
    Record, by_least, causes, first_wrong, glass_then, is_alike, longest_chain, recorded, seen, vectors,
)
from leastroads.webs import Web
from tests.orders import full_web, named_webs, row_web, run_webs
from tests.slow_records import SlowRecord, owner
from tests.slow_states import word_by_chance
from tests.things import Exactly, odd_things

THREE = Web(3, ((0, 1, 5), (0, 2, 7), (1, 2, 6)))
ROW = Web(3, ((0, 1, 5), (1, 2, 6)))
ONE = Web(1, ())
TWO = row_web([5])
JOIN = ("join", 0)
BEGIN = ("begin", 1, (5, 0, 1), 1)
NOTHING = ("report", ())
# A whole run of two houses.
WHOLE = (
    ("wake", 0), ("take", 0, 1, JOIN), ("take", 1, 0, JOIN), ("take", 1, 0, BEGIN), ("take", 0, 1, BEGIN),
    ("take", 0, 1, NOTHING), ("over", 1), ("take", 1, 0, NOTHING), ("over", 0))


def record_webs():
    return run_webs()[::2]


def choices_by_chance(chance):
    return [chance.randrange(100) for _ in range(chance.choice((0, 5, 300)))]


def event_by_chance(chance, web):
    a, b, weight = chance.choice(web.ties)
    one, other = chance.choice(((a, b), (b, a)))
    house = chance.randrange(web.many)
    take = ("take", one, other, word_by_chance(chance, web))
    return chance.choice((("wake", house), ("over", house), take))


def spoilt(chance, web, events):
    """Events with some doubled, left out, put elsewhere or put in."""
    events = list(events)
    for _ in range(chance.choice((1, 1, 2, 4))):
        at = chance.randrange(len(events) + 1)
        kind = chance.randrange(5)
        if kind == 0:
            del events[at:at + 1]
        elif kind == 1:
            events.insert(at, event_by_chance(chance, web))
        elif kind == 2:
            events.insert(at, ("over", chance.randrange(web.many)))
        elif kind == 3 and events:
            events.insert(at, chance.choice(events))
        elif kind == 4 and events:
            events.insert(at, events.pop(chance.randrange(len(events))))
    return tuple(events)


def some_records(seed):
    """Records of runs, whole and cut and spoilt, of many webs."""
    chance = Random(seed)
    for web in record_webs():
        events = recorded(web, choices_by_chance(chance)).events
        yield Record(web, events)
        yield Record(web, events[:chance.randrange(len(events))])
        if web.ties:
            for _ in range(4):
                yield Record(web, spoilt(chance, web, events))


class WhatIsARecord(unittest.TestCase, Exactly):
    def kept(self, web, events):
        record = Record(web, events)
        self.assertEqual(record.web, web)
        self.exactly(record.events, events)

    def bad(self, index, events, web=THREE):
        self.exactly(self.refused(BadRecord, Record, web, events).index, index)

    def test_right_ones(self):
        for events in ((), WHOLE, (("over", 2),) * 5, (("take", 2, 1, ("ask", 9, (7, 0, 2))), ("wake", 0))):
            self.kept(THREE, events)
        self.kept(ONE, (("wake", 0), ("over", 0)))

    def test_at_most_3000(self):
        self.kept(THREE, (("over", 0),) * 3000)
        self.bad(-1, (("over", 0),) * 3001)
        self.bad(-1, (None,) * 3001)
        self.bad(2999, (("over", 0),) * 2999 + (None,))

    def test_no_tuple(self):
        for thing in odd_things() + [list(WHOLE), dict.fromkeys(WHOLE), None, "wake", []]:
            if not isinstance(thing, tuple) or len(thing) > 3000:
                self.bad(-1, thing)

    def test_odd_things_for_an_event(self):
        for thing in odd_things() + [(), ("wake",), ("over",), ("take",), ("sleep", 0), ["wake", 0], "wake"]:
            self.bad(0, (thing,))
            self.bad(2, (("wake", 0), ("over", 1), thing, None))
            self.bad(0, (thing, None))

    def test_odd_things_in_an_event(self):
        for thing in odd_things():
            for event in (
                    (thing, 0), ("wake", thing), ("over", thing), ("take", thing, 1, JOIN), ("take", 0, thing, JOIN),
                    ("take", 0, 1, thing), (thing, 0, 1, JOIN), ("take", 0, 1, ("join", thing))):
                self.bad(1, (("wake", 0), event))

    def test_each_kind_of_wrong_event(self):
        for event in (
                ("wake", 3), ("wake", -1), ("wake", True), ("wake", False), ("wake", 0, 0), ("wake", (0,)),
                ("over", 3), ("over", True), ("over", 0, 1), ("over", None), ("wake", 0, 1, JOIN), ("over", 0, 1, JOIN),
                ("take", 0, 1), ("take", 0), ("take", 0, 1, JOIN, JOIN), ("take", 0, 0, JOIN), ("take", 0, 3, JOIN),
                ("take", 3, 0, JOIN), ("take", -1, 0, JOIN), ("take", True, 0, JOIN), ("take", 0, True, JOIN),
                ("take", False, 1, JOIN), ("take", 0, 1, ["join", 0]), ("take", 0, 1, ("join",)),
                ("take", 0, 1, ("join", 10)), ("take", 0, 1, ("join", False)), ("take", 0, 1, ("ask", 0, ())),
                ("take", 0, 1, ("ask", 0, (5, 0, 2))), ("take", 0, 1, "join"), ("Take", 0, 1, JOIN),
                ["take", 0, 1, JOIN], ("take", (0, 1), JOIN)):
            self.bad(0, (event,))
            self.bad(1, (("wake", 0), event, ("wake", 9)))

    def test_neighbours_of_this_web(self):
        self.kept(ROW, (("take", 0, 1, JOIN), ("take", 2, 1, JOIN)))
        self.bad(0, (("take", 0, 2, JOIN),), ROW)
        self.bad(0, (("take", 2, 0, JOIN),), ROW)
        self.bad(1, (("wake", 0), ("wake", 1)), ONE)
        self.bad(0, (("take", 0, 0, JOIN),), ONE)

    def test_equal_if_web_and_events_are(self):
        self.assertTrue(Record(TWO, WHOLE) == Record(Web(2, ((0, 1, 5),)), WHOLE))
        self.assertFalse(Record(TWO, WHOLE) != Record(Web(2, ((0, 1, 5),)), tuple(list(WHOLE))))
        self.assertFalse(Record(TWO, WHOLE) == Record(TWO, WHOLE[:-1]))
        self.assertFalse(Record(THREE, (("wake", 0),)) == Record(ROW, (("wake", 0),)))
        self.assertFalse(Record(TWO, ()) == Record(ONE, ()))
        for thing in odd_things() + [WHOLE, TWO, (TWO, WHOLE)]:
            if not isinstance(thing, Record):
                self.assertFalse(Record(TWO, WHOLE) == thing)
                self.assertFalse(thing == Record(TWO, WHOLE))


class FirstWrong(unittest.TestCase, Exactly):
    def told(self, wrong, events, web=TWO, done=None):
        """What is first_wrong, and how many events can be done."""
        record = Record(web, events)
        self.exactly(first_wrong(record), wrong)
        self.exactly(SlowRecord(web, events).wrong, wrong)
        if done is not None:
            self.exactly(len(causes(record)), done)

    def test_none(self):
        self.told(None, (), done=0)
        for many in range(len(WHOLE) + 1):
            self.told(None, WHOLE[:many], done=many)
        self.told(None, (("wake", 0), ("over", 0), ("over", 0)), ONE, 3)

    def test_awake(self):
        self.told((1, "awake"), (("wake", 0), ("wake", 0), ("wake", 1)), done=1)
        self.told((2, "awake"), WHOLE[:2] + (("wake", 1),) + WHOLE[2:], done=2)
        self.told((9, "awake"), WHOLE + (("wake", 1),), done=9)

    def test_empty(self):
        self.told((0, "empty"), (("take", 0, 1, JOIN),), done=0)
        self.told((1, "empty"), (("wake", 0), ("take", 1, 0, JOIN)), done=1)
        self.told((2, "empty"), WHOLE[:2] + WHOLE[1:], done=2)

    def test_other(self):
        self.told((1, "other"), (("wake", 0), ("take", 0, 1, ("join", 1))), done=1)
        self.told((2, "other"), WHOLE[:2] + (("take", 1, 0, BEGIN),), done=2)
        self.told((3, "other"), WHOLE[:3] + (("take", 1, 0, ("begin", 1, (5, 0, 1), 0)),), done=3)

    def test_early_does_not_stop_what_can_be_done(self):
        self.told((0, "early"), (("over", 0),) + WHOLE, done=10)
        self.told((5, "early"), WHOLE[:5] + (("over", 1),) + WHOLE[5:], done=10)
        self.told((7, "early"), WHOLE[:7] + (("over", 0),) + WHOLE[7:], done=10)
        self.told((0, "early"), (("over", 1), ("take", 0, 1, JOIN), ("wake", 0)), done=1)

    def test_the_first_of_several(self):
        self.told((1, "awake"), (("wake", 0), ("wake", 0), ("over", 0), ("take", 1, 0, JOIN)), done=1)
        self.told((1, "early"), (("wake", 0), ("over", 0), ("wake", 0)), done=2)

    def test_many_records_against_a_slow_reckoning(self):
        found = set()
        for record in some_records(1):
            slow = SlowRecord(record.web, record.events)
            ahead = repr((record.web.ties, record.events))
            self.exactly(first_wrong(record), slow.wrong)
            self.exactly(first_wrong(record), slow.wrong)
            self.assertEqual(repr((record.web.ties, record.events)), ahead)
            found.add(slow.wrong and slow.wrong[1])
        self.assertEqual(found, {None, "awake", "empty", "other", "early"})


class GlassThen(unittest.TestCase, Exactly):
    def test_at_each_moment(self):
        for record in some_records(2):
            slow = SlowRecord(record.web, record.events)
            for at, glass in list(enumerate(slow.glasses))[::7] + [(len(slow.done), slow.glasses[-1])]:
                self.exactly(glass_then(record, at), glass)
                self.exactly(broken(record.web, glass), ())
            for at in (len(slow.done) + 1, len(slow.done) + 2):
                self.refused(NoMoment, glass_then, record, at)

    def test_each_glass_of_some_records(self):
        for record in list(some_records(3))[::9]:
            slow = SlowRecord(record.web, record.events)
            for at, glass in enumerate(slow.glasses):
                self.exactly(glass_then(record, at), glass)

    def test_at_first_and_over(self):
        self.exactly(glass_then(Record(TWO, ()), 0), first_glass(TWO))
        self.exactly(glass_then(Record(TWO, (("wake", 0), ("over", 1))), 2), glass_then(Record(TWO, (("wake", 0),)), 1))

    def test_no_moment(self):
        record = Record(TWO, WHOLE)
        for thing in odd_things() + [True, False, 10, -1, (0,), "0", None]:
            self.refused(NoMoment, glass_then, record, thing)
        self.exactly(glass_then(record, 9), glass_then(record, 8))
        stopped = Record(TWO, (("wake", 0), ("wake", 0), ("wake", 1)))
        glass_then(stopped, 1)
        self.refused(NoMoment, glass_then, stopped, 2)
        self.refused(NoMoment, glass_then, stopped, 3)


class Knowing(unittest.TestCase, Exactly):
    def test_of_a_whole_run(self):
        record = Record(TWO, WHOLE)
        self.exactly(causes(record), ((), (0,), (0, 1), (1, 2), (1, 2), (3, 4), (5,), (3, 4), (7,)))
        self.exactly(vectors(record), (
            (1, 0), (1, 1), (2, 1), (3, 1), (2, 2), (3, 3), (3, 4), (4, 2), (5, 2)))
        self.exactly(longest_chain(record), 6)

    def test_an_over_is_an_event_of_its_house(self):
        events = (("over", 0), ("wake", 0), ("over", 0), ("take", 0, 1, JOIN), ("over", 0))
        record = Record(TWO, events)
        self.exactly(causes(record), ((), (0,), (1,), (1,), (2,)))
        self.exactly(vectors(record), ((1, 0), (2, 0), (3, 0), (2, 1), (4, 0)))
        self.exactly(longest_chain(record), 4)
        self.exactly(seen(record, 0), events[:3] + events[4:])
        self.exactly(seen(record, 1), events[3:4])

    def test_without_events(self):
        for events in ((), (("take", 0, 1, JOIN),)):
            record = Record(TWO, events)
            self.exactly((causes(record), vectors(record), longest_chain(record)), ((), (), 0))
            self.exactly((seen(record, 0), seen(record, 1)), ((), ()))
            self.exactly(by_least(record), Record(TWO, ()))

    def exactly(self, got, wanted):
        if isinstance(wanted, Record):
            self.assertIs(type(got), Record)
            self.assertEqual(got, wanted)
        else:
            Exactly.exactly(self, got, wanted)

    def test_many_records_against_a_slow_reckoning(self):
        for record in some_records(4):
            slow = SlowRecord(record.web, record.events)
            ahead = repr((record.web.ties, record.events))
            self.exactly(causes(record), tuple(slow.direct))
            self.exactly(vectors(record), slow.vectors())
            self.exactly(longest_chain(record), slow.longest())
            self.exactly(by_least(record), Record(record.web, slow.by_least()))
            for house in range(record.web.many):
                self.exactly(seen(record, house), slow.seen(house))
            self.exactly(causes(record), tuple(slow.direct))
            self.exactly(by_least(record), by_least(record))
            self.assertEqual(repr((record.web.ties, record.events)), ahead)

    def test_seen_by_no_house(self):
        for thing in odd_things() + [2, True, (0,)]:
            self.refused(NoHouse, seen, Record(TWO, WHOLE), thing)

    def test_by_least_of_a_small_one(self):
        events = (("wake", 1), ("over", 0), ("take", 1, 0, JOIN), ("take", 0, 1, JOIN), ("wake", 1))
        self.exactly(
            by_least(Record(TWO, events)),
            Record(TWO, (("over", 0), ("wake", 1), ("take", 1, 0, JOIN), ("take", 0, 1, JOIN))))
        both = (("wake", 1), ("wake", 0), ("take", 0, 1, JOIN), ("take", 1, 0, JOIN))
        self.exactly(by_least(Record(TWO, both)), Record(TWO, (both[1], both[0], both[3], both[2])))


class Alike(unittest.TestCase, Exactly):
    def test_another_order(self):
        one = Record(TWO, (("wake", 0), ("wake", 1), ("take", 0, 1, JOIN)))
        other = Record(TWO, (("wake", 1), ("wake", 0), ("take", 0, 1, JOIN)))
        self.exactly(is_alike(one, other), True)
        self.exactly(is_alike(one, one), True)
        self.exactly(is_alike(one, Record(TWO, one.events[:2])), False)
        self.exactly(is_alike(Record(TWO, one.events[:2]), one), False)
        # What can't be done is seen by nobody.
        self.exactly(is_alike(one, Record(TWO, other.events + (("wake", 0), ("over", 1)))), True)
        self.exactly(is_alike(one, Record(TWO, other.events + (("over", 1),))), False)

    def test_another_order_of_one_house(self):
        web = row_web([1, 1])
        woken = (("wake", 0), ("wake", 1), ("wake", 2))
        takes = (("take", 0, 1, JOIN), ("take", 2, 1, JOIN))
        one = Record(web, woken + takes)
        self.exactly(is_alike(one, Record(web, woken + takes[::-1])), False)
        self.exactly(is_alike(one, Record(web, woken[::-1] + takes)), True)

    def test_another_web(self):
        self.exactly(is_alike(Record(TWO, ()), Record(ONE, ())), False)
        self.exactly(is_alike(Record(THREE, (("wake", 0),)), Record(ROW, (("wake", 0),))), False)
        self.exactly(is_alike(Record(TWO, ()), Record(row_web([6]), ())), False)

    def test_odd_things(self):
        for thing in odd_things() + [WHOLE, TWO, None, (TWO, WHOLE)]:
            self.exactly(is_alike(Record(TWO, WHOLE), thing), False)
            self.exactly(is_alike(Record(TWO, ()), thing), False)

    def test_the_fact_of_orders(self):
        chance = Random(6)
        for record in some_records(5):
            other = by_least(record)
            self.exactly(is_alike(record, other), True)
            self.exactly(is_alike(other, record), True)
            self.assertIn((first_wrong(other) or (0, None))[1], (None, "early"))
            self.assertEqual(longest_chain(other), longest_chain(record))
            self.exactly(by_least(other).events, other.events)
            done = len(other.events)
            self.exactly(glass_then(record, done), glass_then(other, done))
            mixed = Record(record.web, self.mixed(chance, record))
            self.exactly(is_alike(record, mixed), True)
            self.exactly(by_least(mixed).events, other.events)
            self.exactly(glass_then(mixed, done), glass_then(other, done))
            self.assertEqual(longest_chain(mixed), longest_chain(record))

    def mixed(self, chance, record):
        """The events that can be done, in any order that the causes leave."""
        slow = SlowRecord(record.web, record.events)
        order = []
        while len(order) < len(slow.done):
            free = [
                at for at, direct in enumerate(slow.direct) if at not in order and set(direct) <= set(order)]
            order.append(chance.choice(free))
        return tuple(slow.done[at] for at in order)


class Recorded(unittest.TestCase, Exactly):
    def test_two_houses(self):
        self.exactly(recorded(TWO, (0, 1, 0, 0)).events[:4], (
            ("wake", 0), ("wake", 1), ("take", 0, 1, JOIN), ("take", 1, 0, JOIN)))
        self.exactly(
            recorded(TWO, ()).events, WHOLE[:3] + (WHOLE[4], WHOLE[3]) + WHOLE[5:])

    def test_one_house_is_over_by_waking(self):
        for choices in ((), [], (5,), [1, 2, 3]):
            record = recorded(ONE, choices)
            self.assertIs(type(record), Record)
            self.exactly((record.web.many, record.events), (1, (("wake", 0), ("over", 0))))

    def test_the_fact_of_records_and_of_knowing(self):
        chance = Random(7)
        for web in run_webs():
            choices = choices_by_chance(chance)
            ahead = list(choices)
            record = recorded(web, choices)
            self.assertEqual(choices, ahead)
            self.assertEqual(record.web, web)
            self.exactly(recorded(web, tuple(choices)).events, record.events)
            self.exactly(first_wrong(record), None)
            glass, counts = run_out(web, choices)
            self.exactly(glass_then(record, len(record.events)), glass)
            takes = [event for event in record.events if event[0] == "take"]
            self.assertEqual(len(takes), sum(counts))
            overs = [at for at, event in enumerate(record.events) if event[0] == "over"]
            self.assertEqual(sorted(owner(record.events[at]) for at in overs), list(range(web.many)))
            for at in overs:
                self.assertNotIn(0, vectors(record)[at])
                # It stands just behind the move by which its house is over.
                self.assertEqual(owner(record.events[at - 1]), owner(record.events[at]))
                house = owner(record.events[at])
                self.assertEqual(glass_then(record, at)[0][house][0], "over")
                self.assertNotEqual(glass_then(record, at - 1)[0][house][0], "over")

    def test_an_over_that_is_not_early_knows_of_all(self):
        for record in some_records(8):
            slow = SlowRecord(record.web, record.events)
            for at, vector in enumerate(vectors(record)):
                if record.events[at][0] == "over":
                    house = record.events[at][1]
                    if slow.glasses[at][0][house][0] == "over":
                        self.assertNotIn(0, vector)

    def test_no_choices(self):
        for thing in odd_things() + [{}, "", range(3), None, 0]:
            if not isinstance(thing, (list, tuple)):
                self.exactly(self.refused(NoChoices, recorded, THREE, thing).index, -1)
            if isinstance(thing, bool) or not isinstance(thing, int) or thing < 0:
                self.exactly(self.refused(NoChoices, recorded, THREE, [thing]).index, 0)
                self.exactly(self.refused(NoChoices, recorded, ONE, (0, 1, thing, None)).index, 2)

    def test_big_choices(self):
        web = full_web(4, [1, 2, 3, 4, 5, 6])
        self.assertEqual(recorded(web, (10 ** 4000, 10 ** 4000 + 3)), recorded(web, [0, 3]))
        self.assertNotEqual(recorded(web, (0, 3)), recorded(web, (0, 0)))

    def test_named_webs_against_run_out(self):
        for web in named_webs():
            record = recorded(web, ())
            self.exactly(glass_then(record, len(record.events)), run_out(web, ())[0])


if __name__ == "__main__":
    unittest.main()
