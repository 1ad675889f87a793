"""Links: what is put, known, waiting; what is taken, held, not heard; states there and back."""

import unittest
from random import Random

from leastroads.errors import NoNumber, NoState
from leastroads.links import Incoming, Outgoing, incoming_of, outgoing_of
from leastroads.webs import Web
from tests.things import Exactly, nested, odd_things

LIMIT = 2 ** 32
THINGS = (
    (), ("join", 0), (None,), (True, False), (-7, 10 ** 20, ""), ((),), ((), ((None, "a\n"),), 5),
    ("report", (5, 0, 1)), nested(39, lambda thing: (thing,)), (10 ** 4000,))
NO_THINGS = (
    None, True, 0, "", "join", b"", [], {}, [("join", 0)], ([],), ((), [1]), (b"a",), ({},), ((1, (2, [3])),),
    (Web(1, ()),), (range(2),), (len,), (int,), (ValueError(),), nested(30, lambda thing: ([thing],)))


def deep(many):
    """A thing that is nested deeper than calls may be."""
    thing = ()
    for _ in range(many):
        thing = (thing,)
    return thing


class SlowOutgoing:
    def __init__(self):
        self.put, self.known = [], 0

    def told(self):
        waiting = [(at, thing) for at, thing in enumerate(self.put) if at >= self.known]
        return (waiting, len(self.put), (self.known, tuple(thing for _, thing in waiting)))


def told_out(end):
    return (end.waiting(), end.many_put(), end.state())


def told_in(end):
    return (end.taken(), end.held(), end.state())


class SlowIncoming:
    """Keeps all that was ever heard under each number."""

    def __init__(self):
        self.first, self.taken = {}, 0

    def take(self, number, thing):
        if number < self.taken + 1000:
            self.first.setdefault(number, thing)
        ahead = self.taken
        while self.taken in self.first:
            self.taken += 1
        return [self.first[at] for at in range(ahead, self.taken)]

    def told(self):
        held = tuple(sorted(number for number in self.first if number >= self.taken))
        return (self.taken, held, (self.taken, tuple((number, self.first[number]) for number in held)))


class Puts(unittest.TestCase, Exactly):
    def test_by_hand(self):
        end = Outgoing()
        self.exactly(told_out(end), ([], 0, (0, ())))
        self.exactly([end.put(("a",)), end.put(("b",)), end.put(("c",))], [0, 1, 2])
        self.exactly(told_out(end), ([(0, ("a",)), (1, ("b",)), (2, ("c",))], 3, (0, (("a",), ("b",), ("c",)))))
        self.exactly(end.known(2), 2)
        self.exactly(told_out(end), ([(2, ("c",))], 3, (2, (("c",),))))
        self.exactly(end.put(()), 3)
        self.exactly(end.known(4), 2)
        self.exactly(told_out(end), ([], 4, (4, ())))

    def test_a_lesser_number_changes_nothing(self):
        end = Outgoing()
        for thing in THINGS:
            end.put(thing)
        end.known(5)
        ahead = told_out(end)
        for number in range(6):
            self.exactly(end.known(number), 0)
            self.exactly(told_out(end), ahead)

    def test_no_number(self):
        end = Outgoing()
        self.exactly(end.known(0), 0)
        self.refused(NoNumber, end.known, 1)
        for thing in THINGS:
            end.put(thing)
        end.known(3)
        ahead = told_out(end)
        for thing in odd_things() + [True, False, -1, 11, LIMIT, "1", (1,), None]:
            self.refused(NoNumber, end.known, thing)
            self.exactly(told_out(end), ahead)
        self.exactly(end.known(10), 7)

    def test_by_chance_beside_a_list(self):
        chance = Random(1)
        for _ in range(60):
            end, slow = Outgoing(), SlowOutgoing()
            for _ in range(40):
                if chance.random() < 0.6:
                    thing = chance.choice(THINGS)
                    self.exactly(end.put(thing), len(slow.put))
                    slow.put.append(thing)
                else:
                    number = chance.randrange(len(slow.put) + 3)
                    if number > len(slow.put):
                        self.refused(NoNumber, end.known, number)
                    else:
                        self.exactly(end.known(number), max(0, number - slow.known))
                        slow.known = max(slow.known, number)
                self.exactly(told_out(end), slow.told())
                self.exactly(told_out(outgoing_of(end.state())), slow.told())

    def test_what_is_returned_is_new(self):
        end = Outgoing()
        end.put(("a",))
        end.waiting().append(None)
        end.waiting().clear()
        self.exactly(end.waiting(), [(0, ("a",))])

    def test_copies_go_on_apart(self):
        end = Outgoing()
        end.put(("a",))
        end.put(("b",))
        end.known(1)
        twin = end.copy()
        self.assertIs(type(twin), Outgoing)
        self.exactly(told_out(twin), told_out(end))
        ahead = told_out(end)
        twin.put(("c",))
        twin.known(2)
        self.exactly(told_out(end), ahead)
        behind = told_out(twin)
        end.put(("d",))
        end.known(3)
        self.exactly(told_out(twin), behind)
        self.exactly(twin.waiting(), [(2, ("c",))])


class OutgoingStates(unittest.TestCase, Exactly):
    def test_there_and_back(self):
        for known in (0, 1, 7, LIMIT - 2, LIMIT - 1):
            for many in range(len(THINGS) + 1):
                state = (known, THINGS[:many])
                end = outgoing_of(state)
                self.assertIs(type(end), Outgoing)
                self.exactly(end.state(), state)
                self.exactly(end.many_put(), known + many)
                self.exactly(end.waiting(), [(known + at, thing) for at, thing in enumerate(THINGS[:many])])
                self.exactly(end.put(("new",)), known + many)

    def test_a_state_at_the_limit_goes_on(self):
        end = outgoing_of((LIMIT - 1, (("a",),)))
        self.exactly(end.known(LIMIT), 1)
        self.exactly(end.state(), (LIMIT, ()))
        self.refused(NoState, outgoing_of, end.state())

    def test_the_state_that_is_passed_is_not_changed(self):
        state = (3, (("a",), ("b",)))
        end = outgoing_of(state)
        end.put(("c",))
        end.known(4)
        self.exactly(state, (3, (("a",), ("b",))))
        self.exactly(outgoing_of(state).state(), state)

    def test_no_state(self):
        for thing in odd_things() + [
                (), (0,), (0, (), ()), [0, ()], (0, []), (0, None), (-1, ()), (True, ()), (False, ()), (LIMIT, ()),
                (LIMIT + 1, ()), ("0", ()), ((), 0), (0, ("a",)), (0, (("a",), None))]:
            self.refused(NoState, outgoing_of, thing)

    def test_odd_things_in_a_state(self):
        for thing in odd_things():
            self.refused(NoState, outgoing_of, (thing, ()))
            if not isinstance(thing, tuple):
                self.refused(NoState, outgoing_of, (0, thing))
                self.refused(NoState, outgoing_of, (0, (thing,)))
                self.refused(NoState, outgoing_of, (0, ((), thing, ())))

    def test_what_is_no_thing(self):
        for thing in NO_THINGS:
            self.refused(NoState, outgoing_of, (0, (thing,)))
            self.refused(NoState, outgoing_of, (0, ((), (), thing)))

    def test_a_thing_nested_deeper_than_calls_may_be(self):
        end = Outgoing()
        end.put(deep(50000))
        self.assertEqual(outgoing_of(end.state()).many_put(), 1)


class Takes(unittest.TestCase, Exactly):
    def test_by_hand(self):
        end = Incoming()
        self.exactly(told_in(end), (0, (), (0, ())))
        self.exactly(end.take(0, ("a",)), [("a",)])
        self.exactly(end.take(2, ("c",)), [])
        self.exactly(end.take(3, ("d",)), [])
        self.exactly(told_in(end), (1, (2, 3), (1, ((2, ("c",)), (3, ("d",))))))
        self.exactly(end.take(1, ("b",)), [("b",), ("c",), ("d",)])
        self.exactly(told_in(end), (4, (), (4, ())))

    def test_what_comes_again_is_not_heard(self):
        end = Incoming()
        end.take(0, ("a",))
        end.take(2, ("c",))
        ahead = told_in(end)
        self.exactly(end.take(0, ("other",)), [])
        self.exactly(end.take(2, ("other",)), [])
        self.exactly(told_in(end), ahead)
        self.exactly(end.take(1, ("b",)), [("b",), ("c",)])
        self.exactly(end.take(2, ("other",)), [])
        self.exactly(end.taken(), 3)

    def test_held_numbers_are_below_taken_and_1000(self):
        end = Incoming()
        for number in (1000, 1001, LIMIT - 1):
            self.exactly(end.take(number, ("far",)), [])
        self.exactly(told_in(end), (0, (), (0, ())))
        end.take(999, ("near",))
        self.exactly(end.held(), (999,))
        end.take(0, ("a",))
        end.take(1000, ("now",))
        end.take(1001, ("far",))
        self.exactly(told_in(end), (1, (999, 1000), (1, ((999, ("near",)), (1000, ("now",))))))

    def test_all_thousand_at_once(self):
        end = Incoming()
        for number in range(999, 0, -1):
            self.exactly(end.take(number, (number,)), [])
        self.exactly(end.held(), tuple(range(1, 1000)))
        self.exactly(end.take(0, (0,)), [(number,) for number in range(1000)])
        self.exactly(told_in(end), (1000, (), (1000, ())))

    def test_no_number(self):
        end = Incoming()
        end.take(1, ("b",))
        ahead = told_in(end)
        for thing in odd_things() + [True, False, -1, LIMIT, LIMIT + 1, "0", (0,), None]:
            self.refused(NoNumber, end.take, thing, ("a",))
            self.exactly(told_in(end), ahead)

    def test_at_the_limit(self):
        end = incoming_of((LIMIT - 2, ()))
        self.exactly(end.take(LIMIT - 1, ("z",)), [])
        self.refused(NoNumber, end.take, LIMIT, ("far",))
        self.exactly(end.take(LIMIT - 2, ("y",)), [("y",), ("z",)])
        self.exactly(told_in(end), (LIMIT, (), (LIMIT, ())))
        self.refused(NoNumber, end.take, LIMIT, ("far",))
        self.exactly(end.take(LIMIT - 1, ("z",)), [])
        self.refused(NoState, incoming_of, end.state())

    def test_by_chance_beside_a_dict(self):
        chance = Random(2)
        for _ in range(80):
            end, slow = Incoming(), SlowIncoming()
            for _ in range(50):
                number = max(0, slow.taken + chance.choice((0, 0, 0, 1, 2, 3, 5, -1, -2, 998, 999, 1000, 1001, 5000)))
                thing = chance.choice(THINGS) + (chance.randrange(99),)
                self.exactly(end.take(number, thing), slow.take(number, thing))
                self.exactly(told_in(end), slow.told())
                self.exactly(told_in(incoming_of(end.state())), slow.told())

    def test_what_is_returned_is_new(self):
        end = Incoming()
        found = end.take(0, ("a",))
        found.append(None)
        self.exactly(end.take(0, ("a",)), [])
        self.exactly(told_in(end), (1, (), (1, ())))

    def test_copies_go_on_apart(self):
        end = Incoming()
        end.take(0, ("a",))
        end.take(2, ("c",))
        twin = end.copy()
        self.assertIs(type(twin), Incoming)
        ahead = told_in(end)
        self.exactly(told_in(twin), ahead)
        twin.take(3, ("d",))
        self.exactly(twin.take(1, ("b",)), [("b",), ("c",), ("d",)])
        self.exactly(told_in(end), ahead)
        behind = told_in(twin)
        end.take(5, ("f",))
        self.exactly(told_in(twin), behind)


class IncomingStates(unittest.TestCase, Exactly):
    def test_there_and_back(self):
        for taken in (0, 1, 7, LIMIT - 1):
            for numbers in ((), (1,), (999,), (1, 2, 3), (1, 500, 999), tuple(range(1, 1000))):
                pairs = tuple((taken + number, THINGS[number % len(THINGS)]) for number in numbers)
                end = incoming_of((taken, pairs))
                self.assertIs(type(end), Incoming)
                self.exactly(end.state(), (taken, pairs))
                self.exactly(end.taken(), taken)
                self.exactly(end.held(), tuple(taken + number for number in numbers))

    def test_it_goes_on(self):
        end = incoming_of((4, ((5, ("f",)), (7, ("h",)))))
        self.exactly(end.take(5, ("other",)), [])
        self.exactly(end.take(4, ("e",)), [("e",), ("f",)])
        self.exactly(told_in(end), (6, (7,), (6, ((7, ("h",)),))))

    def test_no_state(self):
        a = ("a",)
        for thing in odd_things() + [
                (), (0,), (0, (), ()), [0, ()], (0, []), (0, None), (-1, ()), (True, ()), (False, ()), (LIMIT, ()),
                (0, ((0, a),)), (5, ((5, a),)), (5, ((4, a),)), (0, ((1000, a),)), (5, ((1005, a),)),
                (0, ((1, a), (1, a))), (0, ((2, a), (1, a))), (0, ((1, a), (1000, a))), (0, ((True, a),)),
                (0, ((1,),)), (0, ((1, a, a),)), (0, ([1, a],)), (0, (1, a)), (0, (a,)), (0, ((1, None),)),
                (0, (("1", a),)), (0, ((a, 1),)), (0, ((-1, a),)), (0, ((2, a), None)), (0, {1: a})]:
            self.refused(NoState, incoming_of, thing)

    def test_odd_things_in_a_state(self):
        for thing in odd_things():
            self.refused(NoState, incoming_of, (thing, ()))
            self.refused(NoState, incoming_of, (0, thing))
            self.refused(NoState, incoming_of, (0, (thing,)))
            self.refused(NoState, incoming_of, (0, ((thing, ()),)))
            self.refused(NoState, incoming_of, (0, ((1, ()), thing)))

    def test_what_is_no_thing(self):
        for thing in NO_THINGS:
            self.refused(NoState, incoming_of, (0, ((1, thing),)))
            self.refused(NoState, incoming_of, (0, ((1, ()), (2, thing))))

    def test_a_thing_nested_deeper_than_calls_may_be(self):
        end = Incoming()
        end.take(1, deep(50000))
        self.assertEqual(incoming_of(end.state()).held(), (1,))


class WholeLinks(unittest.TestCase, Exactly):
    def test_the_fact_of_links(self):
        chance = Random(3)
        for _ in range(60):
            out, end, put, taken, late = Outgoing(), Incoming(), [], [], []
            for step in range(80):
                if chance.random() < 0.3:
                    put.append(("thing", step))
                    out.put(put[-1])
                late += chance.sample(out.waiting(), min(2, len(out.waiting())))
                if late and chance.random() < 0.8:
                    taken += end.take(*chance.choice(late))
                if chance.random() < 0.3:
                    out.known(chance.randrange(end.taken() + 1))
                self.exactly(taken, put[:len(taken)])
                self.assertEqual(end.taken(), len(taken))
            while out.waiting():
                taken += end.take(*out.waiting()[0])
                out.known(end.taken())
            self.exactly(taken, put)

    def test_equal_to_nothing_of_another_kind(self):
        for thing in odd_things():
            for end, kind in ((Outgoing(), Outgoing), (Incoming(), Incoming)):
                if not isinstance(thing, kind):
                    self.assertFalse(end == thing)
        self.assertFalse(Outgoing() == Incoming())


if __name__ == "__main__":
    unittest.main()
