"""The glass: what is one by its form, moves, what is marked, fragments, sums."""

import unittest
from itertools import permutations, product
from random import Random

from leastroads.errors import NoGlass, NoMove
from leastroads.glass import broken, first_glass, fragments, is_glass, marked, moved, moves
from leastroads.states import begun
from leastroads.trees import least_tree
from leastroads.webs import Web
from tests.orders import full_web, orders, ring_web, row_web, run_webs, star_web
from tests.slow import greater_webs, small_webs
from tests.slow_glass import slow_broken, slow_first, slow_fragments, slow_marked, slow_moved, slow_moves
from tests.slow_states import near, state_by_chance, word_by_chance
from tests.things import Exactly, odd_things

THREE = Web(3, ((0, 1, 5), (0, 2, 7), (1, 2, 6)))
ROW = Web(3, ((0, 1, 5), (1, 2, 6)))
ONE = Web(1, ())
ASLEEP = tuple(begun(THREE, house) for house in range(3))
YES = (("yes",),)
P, B, R = "plain", "branch", "refused"


def glass_by_chance(chance, web):
    """Any glass of a web that has ties."""
    pairs = sorted((one, other) for one in range(web.many) for other in near(web, one))
    ways = [
        pair + (tuple(word_by_chance(chance, web) for _ in range(chance.randrange(1, 4))),)
        for pair in pairs if chance.random() < 0.4]
    return (tuple(state_by_chance(chance, web, house) for house in range(web.many)), tuple(ways))


def state_of(web, house, **parts):
    fields = dict(zip(("stage", "level", "core", "marks", "count", "back", "best", "asked", "waits"), begun(web, house)))
    fields.update(parts)
    return tuple(fields.values())


class IsGlass(unittest.TestCase, Exactly):
    def judged(self, thing, right, web=THREE):
        self.exactly(is_glass(web, thing), right)

    def test_the_first_one(self):
        for web in list(small_webs()) + list(greater_webs()):
            self.judged(first_glass(web), True, web)
            self.exactly(first_glass(web), slow_first(web))

    def test_by_form_alone(self):
        chance = Random(1)
        for web in [THREE] * 30 + list(greater_webs()):
            self.judged(glass_by_chance(chance, web), True, web)

    def test_ways(self):
        for ways in (
                (), ((0, 1, YES),), ((2, 1, YES * 9),), ((0, 1, YES), (0, 2, YES), (1, 0, YES), (2, 0, YES)),
                ((0, 2, (("no",), ("ask", 1, (5, 0, 1)), ("no",))), (1, 0, YES))):
            self.judged((ASLEEP, ways), True)

    def test_ways_that_are_none(self):
        for ways in (
                [], None, ((0, 1, ()),), ((0, 1, list(YES)),), ((0, 1),), ((0, 1, YES, YES),), ([0, 1, YES],),
                ((0, 0, YES),), ((0, 3, YES),), ((3, 0, YES),), ((-1, 0, YES),), ((False, 1, YES),),
                ((0, True, YES),), ((0, None, YES),), ((0, 1, ("yes",)),), ((0, 1, (("yes", 0),)),),
                ((0, 1, (["yes"],)),), ((0, 1, YES + (None,)),), ((0, 1, (("ask", 1, ()),)),), (0, 1, YES), ((),),
                ((0, 2, YES), (0, 1, YES)), ((1, 0, YES), (0, 1, YES)), ((0, 1, YES), (0, 1, YES)),
                ((0, 1, (("no",),)), (0, 1, YES)), {(0, 1): YES}, ((0, 1, YES), None)):
            self.judged((ASLEEP, ways), False)

    def test_ways_go_between_neighbours(self):
        states = first_glass(ROW)[0]
        for one, other in permutations(range(3), 2):
            self.judged((states, ((one, other, YES),)), {one, other} != {0, 2}, ROW)

    def test_states_of_just_these_houses(self):
        first, second, third = first_glass(ROW)[0]
        self.judged(((first, second, third), ()), True, ROW)
        self.judged(((second, first, third), ()), False, ROW)
        self.judged(((first, second), ()), False, ROW)
        self.judged(((first, second, third, third), ()), False, ROW)
        self.judged(([first, second, third], ()), False, ROW)
        self.judged(((), ()), False, ROW)

    def test_no_pairs(self):
        for thing in ((), (ASLEEP,), (ASLEEP, (), ()), [ASLEEP, ()], ASLEEP, ((), ASLEEP), ((ASLEEP, ()),)):
            self.judged(thing, False)

    def test_odd_things_in_any_place(self):
        for thing in odd_things():
            self.judged(thing, False)
            self.judged(thing, False, ONE)
            self.judged((thing, ()), False)
            self.judged((ASLEEP, thing), False)
            self.judged((ASLEEP[:1] + (thing,) + ASLEEP[2:], ()), False)
            for way in (thing, (thing, 1, YES), (0, thing, YES), (0, 1, thing), (0, 1, (thing,))):
                self.judged((ASLEEP, (way,)), False)

    def test_long_tuples(self):
        self.judged((ASLEEP, ((0, 1, YES * 9000),)), True)
        self.judged((ASLEEP, ((0, 1, YES * 9000 + (("yes", 0),)),)), False)
        self.judged((ASLEEP * 3000, ()), False)


class Moves(unittest.TestCase, Exactly):
    def test_at_first_each_house_can_wake(self):
        self.exactly(moves(THREE, first_glass(THREE)), (("wake", 0), ("wake", 1), ("wake", 2)))
        self.exactly(moves(ONE, first_glass(ONE)), (("wake", 0),))

    def test_takes_come_ahead_of_wakes(self):
        glass = moved(THREE, moved(THREE, first_glass(THREE), ("wake", 2)), ("wake", 0))
        self.exactly(glass[1], ((0, 1, (("join", 0),)), (2, 1, (("join", 0),))))
        self.exactly(moves(THREE, glass), (("take", 0, 1), ("take", 2, 1), ("wake", 1)))

    def test_of_any_glass(self):
        chance = Random(2)
        for web in [THREE, ROW] * 40 + list(greater_webs()):
            glass = glass_by_chance(chance, web)
            self.exactly(moves(web, glass), slow_moves(web, glass))

    def test_a_move_behind_the_words_on_their_way(self):
        ways = ((0, 1, (("no",), ("yes",))), (1, 0, (("join", 0), ("ask", 5, (6, 1, 2)))))
        states = (state_of(THREE, 0, stage="found", level=2, core=(5, 0, 1), marks=(P, P)),) + ASLEEP[1:]
        behind = moved(THREE, (states, ways), ("take", 1, 0))
        self.exactly(behind[1], (
            (0, 1, (("no",), ("yes",), ("begin", 2, (5, 0, 1), 0))), (1, 0, (("ask", 5, (6, 1, 2)),))))
        self.exactly(behind[0], (states[0][:3] + ((B, P),) + states[0][4:],) + ASLEEP[1:])

    def test_a_way_whose_last_word_was_taken_is_gone(self):
        glass = moved(ROW, moved(ROW, first_glass(ROW), ("wake", 0)), ("take", 0, 1))
        self.exactly(glass[1], ((1, 0, (("join", 0), ("begin", 1, (5, 0, 1), 1))),))

    def test_any_move_of_any_glass(self):
        chance = Random(3)
        many = [0, 0]
        for web in [THREE, ROW] * 60 + list(greater_webs()):
            glass = glass_by_chance(chance, web)
            ahead = repr(glass)
            for move in slow_moves(web, glass):
                wanted = slow_moved(web, glass, move)
                many[wanted is None] += 1
                if wanted is None:
                    self.refused(NoMove, moved, web, glass, move)
                else:
                    self.exactly(moved(web, glass, move), wanted)
                    self.exactly(moved(web, glass, move), wanted)
            self.assertEqual(repr(glass), ahead)
        self.assertGreater(min(many), 200)


class Refusals(unittest.TestCase, Exactly):
    def test_no_glass(self):
        for thing in odd_things() + [(ASLEEP, []), [ASLEEP, ()], (ASLEEP[:2], ()), first_glass(ROW)]:
            for call in (moves, marked, fragments, broken):
                self.refused(NoGlass, call, THREE, thing)
            self.refused(NoGlass, moved, THREE, thing, ("wake", 0))

    def test_no_move(self):
        glass = moved(THREE, first_glass(THREE), ("wake", 1))
        for thing in odd_things() + [
                (), ("wake",), ("wake", 1), ("wake", 3), ("wake", -1), ("wake", True), ("wake", False), ["wake", 0],
                ("wake", 0, 0), ("wake", (0,)), ("sleep", 0), (0, "wake"), ("take", 1, 0, ("join", 0)), ("take", 1),
                ("take", 0, 1), ("take", 1, 2), ("take", 1, False), ("take", True, 0), ("take", 1, None), ("Wake", 0),
                ("take", 3, 0), ["take", 1, 0], (("wake", 0),), ("over", 1), "wake", ("wake", [0]), (b"wake", 0)]:
            self.refused(NoMove, moved, THREE, glass, thing)
        self.exactly(moved(THREE, glass, ("take", 1, 0)), slow_moved(THREE, glass, ("take", 1, 0)))

    def test_odd_things_in_a_move(self):
        for thing in odd_things():
            for move in ((thing, 0), ("wake", thing), ("take", thing, 1), ("take", 0, thing), ("wake", 0, thing)):
                self.refused(NoMove, moved, THREE, (ASLEEP, ((0, 1, YES),)), move)

    def test_a_word_that_is_none_then(self):
        for word in (("yes",), ("no",), ("begin", 1, (5, 0, 1), 1), ("report", ()), ("turn",), ("over",)):
            self.refused(NoMove, moved, THREE, (ASLEEP, ((0, 1, (word,)),)), ("take", 0, 1))
        ended = (ASLEEP[0], state_of(THREE, 1, stage="over"), ASLEEP[2])
        self.refused(NoMove, moved, THREE, (ended, ((0, 1, (("join", 0),)),)), ("take", 0, 1))

    def test_no_glass_comes_first(self):
        self.refused(NoGlass, moved, THREE, (ASLEEP, []), None)
        self.refused(NoGlass, moved, THREE, None, ("wake", 3))


class Told(unittest.TestCase, Exactly):
    def test_marked_at_one_end_and_fragments_at_both(self):
        glass = moved(THREE, first_glass(THREE), ("wake", 0))
        self.exactly(marked(THREE, glass), ((0, 1),))
        self.exactly(fragments(THREE, glass), ((0,), (1,), (2,)))
        glass = moved(THREE, glass, ("take", 0, 1))
        self.exactly(marked(THREE, glass), ((0, 1),))
        self.exactly(fragments(THREE, glass), ((0, 1), (2,)))

    def test_lots_ascend(self):
        web = row_web([1, 2, 3])
        states = (
            state_of(web, 0, marks=(P,)), state_of(web, 1, marks=(B, B)),
            state_of(web, 2, marks=(B, P)), state_of(web, 3, marks=(B,)))
        self.exactly(fragments(web, (states, ())), ((0,), (1, 2), (3,)))
        self.exactly(marked(web, (states, ())), ((0, 1), (1, 2), (2, 3)))

    def test_of_any_glass(self):
        chance = Random(4)
        for web in [THREE, ROW] * 60 + list(greater_webs()):
            glass = glass_by_chance(chance, web)
            ahead = repr(glass)
            for call, slow in ((marked, slow_marked), (fragments, slow_fragments), (broken, slow_broken)):
                self.exactly(call(web, glass), slow(web, glass))
                self.exactly(call(web, glass), slow(web, glass))
            self.assertEqual(repr(glass), ahead)

    def test_one_house(self):
        for glass in (first_glass(ONE), moved(ONE, first_glass(ONE), ("wake", 0))):
            self.exactly(marked(ONE, glass), ())
            self.exactly(fragments(ONE, glass), ((0,),))
            self.exactly(broken(ONE, glass), ())


class Broken(unittest.TestCase, Exactly):
    # The least tree of THREE is (0, 1), (1, 2); the neighbours of 0 are 1, 2, those of 1 are 0, 2.
    def told(self, words, first, second, third):
        states = (state_of(THREE, 0, **first), state_of(THREE, 1, **second), state_of(THREE, 2, **third))
        self.exactly(broken(THREE, (states, ())), words)
        self.exactly(slow_broken(THREE, (states, ())), words)

    def test_least_alone(self):
        self.told(("least",), {"marks": (P, B)}, {}, {})
        self.told(("least",), {}, {}, {"marks": (B, P)})
        self.told((), {"marks": (B, P)}, {"marks": (P, B)}, {"marks": (P, B)})

    def test_refused_alone(self):
        self.told(("refused",), {"marks": (R, P)}, {}, {})
        self.told(("refused",), {}, {"marks": (P, R)}, {})
        self.told((), {"marks": (P, R)}, {}, {"marks": (R, P)})

    def test_levels_alone(self):
        self.told(("levels",), {"level": 1}, {}, {})
        self.told(("levels",), {"level": 1, "marks": (B, P)}, {}, {})
        self.told((), {"level": 1, "marks": (B, P)}, {"marks": (B, P), "level": 1}, {})
        self.told(("levels",), {"marks": (B, P)}, {"marks": (B, B)}, {"marks": (P, B), "level": 2})
        self.told(("levels",), {}, {}, {"level": 9})

    def test_counts_alone(self):
        self.told(("counts",), {"count": 1}, {}, {})
        self.told(("counts",), {"count": 2, "marks": (B, P)}, {}, {})
        self.told((), {"count": 1, "marks": (B, P)}, {}, {})
        self.told(("counts",), {}, {}, {"count": 10 ** 4000, "marks": (P, B)})

    def test_over_alone(self):
        self.told(("over",), {"stage": "over"}, {}, {})
        self.told(("over",), {"stage": "over", "marks": (B, P)}, {"marks": (B, B)}, {})
        self.told((), {"stage": "over", "marks": (B, P)}, {"marks": (B, B)}, {"marks": (P, B)})
        self.told((), {"marks": (B, P)}, {}, {})

    def test_several_in_the_order_of_the_document(self):
        self.told(
            ("least", "refused", "levels", "counts", "over"), {"marks": (P, B), "level": 3},
            {"marks": (P, R), "count": 1, "stage": "over"}, {})
        self.told(("refused", "over"), {"stage": "over"}, {"marks": (R, P)}, {})
        self.told(("least", "counts"), {"count": 2, "marks": (P, B)}, {}, {})

    def test_each_lot_of_words(self):
        found = set()
        for marks, level, count, stage in product(
                product((P, B, R), repeat=2), (0, 2), (0, 3), ("found", "over")):
            states = (
                state_of(THREE, 0, marks=marks, level=level, count=count, stage=stage), begun(THREE, 1),
                begun(THREE, 2))
            self.exactly(broken(THREE, (states, ())), slow_broken(THREE, (states, ())))
            found.add(broken(THREE, (states, ())))
        self.assertEqual(len(found), 32)


class WholeRuns(unittest.TestCase, Exactly):
    def ends(self, web, glass):
        """All houses are over, just the least tree is marked, at both ends, nothing is on its way."""
        least = least_tree(web)
        self.assertEqual({state[0] for state in glass[0]}, {"over"})
        self.exactly(glass[1], ())
        self.exactly(marked(web, glass), least)
        self.exactly(fragments(web, glass), (tuple(range(web.many)),))
        for a, b in least:
            for one, other in ((a, b), (b, a)):
                self.assertEqual(glass[0][one][3][near(web, one).index(other)], "branch")

    def test_many_webs_by_many_orders(self):
        for web in run_webs():
            for choose in orders():
                glass = first_glass(web)
                many = 0
                while moves(web, glass):
                    able = moves(web, glass)
                    glass = moved(web, glass, able[choose(able)])
                    self.exactly(broken(web, glass), ())
                    many += 1
                    self.assertLess(many, 1000)
                self.exactly(is_glass(web, glass), True)
                self.ends(web, glass)

    def test_each_step_of_some_runs_against_a_slow_reckoning(self):
        for web in run_webs()[::7]:
            for choose in orders()[4:]:
                glass = first_glass(web)
                while slow_moves(web, glass):
                    able = slow_moves(web, glass)
                    move = able[choose(able)]
                    self.exactly(moves(web, glass), able)
                    behind = moved(web, glass, move)
                    self.exactly(behind, slow_moved(web, glass, move))
                    self.exactly(is_glass(web, behind), True)
                    glass = behind

    def test_all_orders_of_some_webs_of_up_to_four_houses(self):
        for web in (
                ONE, row_web([5]), row_web([1, 2]), row_web([4, 4]), THREE, ring_web([1, 1, 1]),
                row_web([1, 3, 2]), row_web([2, 2, 2]), row_web([3, 1, 2]), star_web([1, 2, 3]),
                ring_web([1, 4, 3, 2]), ring_web([7, 7, 7, 7]), full_web(4, [6, 1, 5, 2, 4, 3]),
                full_web(4, [0] * 6)):
            seen = {first_glass(web)}
            left = [first_glass(web)]
            while left:
                glass = left.pop()
                self.exactly(is_glass(web, glass), True)
                self.exactly(broken(web, glass), ())
                able = moves(web, glass)
                if not able:
                    self.ends(web, glass)
                for move in able:
                    behind = moved(web, glass, move)
                    if behind not in seen:
                        seen.add(behind)
                        left.append(behind)


if __name__ == "__main__":
    unittest.main()
