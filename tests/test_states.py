"""Words and states: what is one by its form, the state at first."""

import unittest
from itertools import product
from random import Random

from leastroads.errors import NoHouse
from leastroads.states import begun, is_state, is_word
from leastroads.webs import Web
from tests.slow import greater_webs, slow_ranks, small_webs
from tests.slow_states import near, state_by_chance, word_by_chance
from tests.things import Exactly, odd_things

THREE = Web(3, ((0, 1, 5), (0, 2, 7), (1, 2, 6)))
ROW = Web(3, ((0, 1, 5), (1, 2, 6)))
ONE = Web(1, ())
CORE = (5, 0, 1)
RANKS = ((5, 0, 1), (7, 0, 2), (6, 1, 2))
NO_RANKS = (
    (), (5,), (5, 0), (0, 1), (5, 0, 1, 0), (0, 1, 5), (5, 1, 0), (6, 0, 1), (5, 0, 2), (5, 1, 2),
    (-5, 0, 1), (5, 0, 3), [5, 0, 1], (5, False, 1), (5, 0, True), ((5,), 0, 1), (5, (0, 1)), "501",
    {5: 0}, 5, None, True,
)
NO_LEVELS = (-1, 10, 11, 10 ** 20, True, False, None, "1", (1,), [1], ())


def all_words():
    for level in range(10):
        yield ("join", level)
        for core in RANKS:
            yield ("ask", level, core)
            yield ("begin", level, core, 0)
            yield ("begin", level, core, 1)
    yield from (("report", found) for found in RANKS + ((),))
    yield from (("yes",), ("no",), ("turn",), ("over",))


class Words(unittest.TestCase, Exactly):
    def wrong(self, *things):
        for thing in things:
            self.exactly(is_word(THREE, thing), False)

    def test_each_right_one(self):
        for word in all_words():
            self.exactly(is_word(THREE, word), True)

    def test_words_by_chance_on_other_webs(self):
        chance = Random(1)
        for web in [web for web in small_webs() if web.ties] + list(greater_webs()):
            for _ in range(5):
                self.exactly(is_word(web, word_by_chance(chance, web)), True)

    def test_odd_things_are_none(self):
        for web in (ONE, THREE):
            for thing in odd_things() + [(), ("",), ("joins",), ("JOIN", 0), (0, "join"), ((),)]:
                self.exactly(is_word(web, thing), False)

    def test_an_odd_thing_in_any_place(self):
        for thing in odd_things():
            self.wrong((thing,), (thing, 0), (thing, 0, CORE), ("join", thing), ("begin", thing, CORE, 1))
            self.wrong(("begin", 0, thing, 1), ("begin", 0, CORE, thing), ("ask", thing, CORE))
            self.wrong(("ask", 0, thing), ("report", thing), ("yes", thing), ("over", thing))

    def test_lists_are_none(self):
        for word in all_words():
            self.wrong(list(word))
            self.wrong(*[word[:at] + ([word[at]],) + word[at + 1:] for at in range(len(word))])

    def test_too_much_or_too_little(self):
        for word in all_words():
            self.wrong(word + (0,), word + ((),), word + (None,), (word,), (word[0], word[1:]))
            if len(word) > 1:
                self.wrong(word[:-1], word[:1])

    def test_levels(self):
        for level in NO_LEVELS:
            self.wrong(("join", level), ("begin", level, CORE, 0), ("ask", level, CORE))

    def test_cores_are_ranks_of_ties_of_the_web(self):
        for core in NO_RANKS:
            self.wrong(("begin", 1, core, 0), ("ask", 1, core))
            if core != ():
                self.wrong(("report", core))
        for word in (("ask", 0, (7, 0, 2)), ("begin", 0, (7, 0, 2), 1), ("report", (7, 0, 2))):
            self.exactly(is_word(THREE, word), True)
            self.exactly(is_word(ROW, word), False)

    def test_found_may_be_nothing_but_no_empty_list(self):
        self.exactly(is_word(THREE, ("report", ())), True)
        self.wrong(("report", []), ("report", ""), ("report", None), ("report", {}), ("report", ((),)))

    def test_finds_is_0_or_1(self):
        for finds in (-1, 2, True, False, None, "1", (1,), (), 10 ** 20):
            self.wrong(("begin", 1, CORE, finds))

    def test_a_web_without_ties_has_words_without_ranks(self):
        for word in (("join", 0), ("yes",), ("no",), ("report", ()), ("turn",), ("over",)):
            self.exactly(is_word(ONE, word), True)
        for word in (("ask", 0, CORE), ("ask", 0, ()), ("begin", 0, (), 1), ("report", CORE)):
            self.exactly(is_word(ONE, word), False)


class Begun(unittest.TestCase, Exactly):
    def test_all_plain_and_asleep(self):
        for web in list(small_webs()) + list(greater_webs()):
            for house in range(web.many):
                plain = ("plain",) * len(near(web, house))
                self.exactly(begun(web, house), ("asleep", 0, (), plain, 0, None, (), None, ()))

    def test_no_house(self):
        for thing in odd_things() + [3, True, (0,)]:
            self.refused(NoHouse, begun, THREE, thing)


GOOD = ("seeks", 2, CORE, ("branch", "plain"), 1, 1, ((6, 1, 2), 2), 2, ((1, ("ask", 3, CORE)),))


class States(unittest.TestCase, Exactly):
    def judged(self, state, right, house=0, web=THREE):
        self.exactly(is_state(web, house, state), right)

    def put(self, at, thing):
        return GOOD[:at] + (thing,) + GOOD[at + 1:]

    def each(self, at, rights, wrongs):
        for thing in rights:
            self.judged(self.put(at, thing), True)
        for thing in wrongs:
            self.judged(self.put(at, thing), False)

    def test_right_ones(self):
        self.judged(GOOD, True)
        self.judged(("asleep", 0, (), (), 0, None, (), None, ()), True, 0, ONE)
        chance = Random(2)
        for web in list(small_webs()) + list(greater_webs()):
            for house in range(web.many):
                self.judged(begun(web, house), True, house, web)
                if web.ties:
                    self.judged(state_by_chance(chance, web, house), True, house, web)

    def test_no_house(self):
        for thing in odd_things() + [3]:
            self.refused(NoHouse, is_state, THREE, thing, GOOD)
            self.refused(NoHouse, is_state, THREE, thing, None)

    def test_odd_things_are_none(self):
        for thing in odd_things() + [(), list(GOOD), GOOD[:-1], GOOD + ((),), (GOOD,), (None,) * 9]:
            self.judged(thing, False)
            self.judged(thing, False, 0, ONE)

    def test_an_odd_thing_in_any_place(self):
        for at in range(9):
            for thing in odd_things():
                none_is_right = thing is None and at in (5, 7)
                # A count may be any number.
                number = at == 4 and isinstance(thing, int) and not isinstance(thing, bool) and thing >= 0
                self.judged(self.put(at, thing), none_is_right or number)

    def test_a_list_in_any_place(self):
        for at in range(9):
            self.judged(self.put(at, [GOOD[at]]), False)
            if isinstance(GOOD[at], tuple):
                self.judged(self.put(at, list(GOOD[at])), False)
            self.judged(self.put(at, []), False)

    def test_stage(self):
        self.each(0, ("asleep", "found", "seeks", "over"), ("", "find", "Found", "branch", 0, b"over", ()))

    def test_level(self):
        self.each(1, range(10), NO_LEVELS)

    def test_core(self):
        self.each(2, RANKS + ((),), [core for core in NO_RANKS if core != ()])

    def test_marks(self):
        words = ("plain", "branch", "refused")
        self.each(3, list(product(words, words)), (
            (), ("plain",), ("plain",) * 3, ("plain", "found"), ("plain", None), "plain", ("plain", ""),
            ["plain", "plain"], (("plain",), "plain"), (0, 1), ({}, {}), ([], "plain"), (b"plain", "plain")))

    def test_count(self):
        self.each(4, (0, 1, 2, 3, 100, 10 ** 20, 10 ** 4000), (-1, True, False, None, "1", (1,), ()))

    def test_back_and_asked(self):
        for at in (5, 7):
            self.each(at, (None, 1, 2), (0, 3, -1, True, False, "1", (1,), [1], (), 10 ** 20))
            self.judged(GOOD[:at] + (2,) + GOOD[at + 1:], False, 0, ROW)

    def test_best(self):
        self.each(6, [()] + [(rank, other) for rank in RANKS for other in (1, 2)], (
            (CORE,), (CORE, 1, 1), (CORE, 0), (CORE, 3), (CORE, None), (CORE, True), ((), 1), (None, 1),
            [CORE, 1], ([5, 0, 1], 1), ((5, 0, 2), 1), (1, CORE), CORE, ((CORE, 1),), None, [], "",
            (CORE, [1]), ((5, False, 1), 1), ((5, 0, True), 1)))

    def test_waits(self):
        pairs = [(other, word) for other in (1, 2) for word in all_words()]
        self.each(8, [(), tuple(pairs), (pairs[0],), (pairs[3],) * 3], (
            pairs, (list(pairs[0]),), (pairs[0], None), (1, ("yes",)), ((0, ("yes",)),), ((3, ("yes",)),),
            ((True, ("yes",)),), ((None, ("yes",)),), ((1, ("yes", 0)),), ((1, ["yes"]),), ((1, "yes"),),
            ((1, ("yes",), 0),), ((1,),), ((),), ((1, ("ask", 0, ())),), ((1, ("join", True)),), None, [], ""))

    def test_the_neighbours_are_those_of_this_house(self):
        state = ("found", 0, (), ("branch",), 0, 1, (), None, ())
        self.judged(state, True, 0, ROW)
        self.judged(state, True, 2, ROW)
        self.judged(state, False, 1, ROW)
        self.judged(("found", 0, (), ("branch", "plain"), 0, 2, (), None, ()), True, 1, ROW)
        self.judged(("found", 0, (), ("branch", "plain"), 0, 1, (), None, ()), False, 1, ROW)

    def test_a_lone_house_has_no_neighbour_for_any_place(self):
        for state in (
                ("found", 0, (), (), 0, 0, (), None, ()), ("found", 0, (), (), 0, None, (), 0, ()),
                ("found", 0, (), ("plain",), 0, None, (), None, ()),
                ("found", 0, (), (), 0, None, (), None, ((0, ("yes",)),))):
            self.judged(state, False, 0, ONE)
        self.judged(("seeks", 9, (), (), 7, None, (), None, ()), True, 0, ONE)

    def test_ranks_are_those_of_the_web_alone(self):
        for web in small_webs():
            for core in slow_ranks(web).values():
                weight, a, b = core
                state = list(begun(web, a))
                for thing, right in ((core, True), ((weight + 1, a, b), False), ((weight, b, a), False)):
                    state[2] = thing
                    self.judged(tuple(state), right, a, web)


class Same(unittest.TestCase):
    def test_equal_calls_give_equal_answers_and_change_nothing(self):
        things = [GOOD, list(GOOD), [("join", 0)], {"a": GOOD}]
        ahead = repr(things)
        for thing in things:
            self.assertEqual(is_state(THREE, 0, thing), is_state(THREE, 0, thing))
            self.assertEqual(is_word(THREE, thing), is_word(THREE, thing))
        self.assertEqual(begun(THREE, 0), begun(THREE, 0))
        self.assertEqual(repr(things), ahead)
        self.assertEqual((THREE.many, THREE.ties), (3, ((0, 1, 5), (0, 2, 7), (1, 2, 6))))


if __name__ == "__main__":
    unittest.main()
