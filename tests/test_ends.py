"""Ends: run_out, how many words of each sort are taken, and their bounds."""

import unittest
from random import Random

from leastroads.ends import bounds, run_out
from leastroads.errors import NoChoices
from leastroads.glass import first_glass, is_glass, marked, moved, moves
from leastroads.trees import least_tree
from leastroads.webs import Web
from tests.orders import full_web, named_webs, row_web, run_webs, star_web
from tests.slow import greater_webs, small_webs
from tests.slow_glass import slow_bounds, slow_first, slow_moved, slow_moves
from tests.slow_states import SORTS
from tests.things import Exactly, nested, odd_things

THREE = Web(3, ((0, 1, 5), (0, 2, 7), (1, 2, 6)))
ONE = Web(1, ())


def slow_run_out(web, choices):
    glass, counts, left = slow_first(web), dict.fromkeys(SORTS, 0), list(choices)
    while slow_moves(web, glass):
        able = slow_moves(web, glass)
        move = able[left.pop(0) % len(able)] if left else able[0]
        for one, other, words in glass[1]:
            if move == ("take", one, other):
                counts[words[0][0]] += 1
        glass = slow_moved(web, glass, move)
    return glass, tuple(counts[sort] for sort in SORTS)


def choices_by_chance(chance):
    top = chance.choice((2, 7, 100, 10 ** 20))
    return [chance.randrange(top) for _ in range(chance.choice((0, 1, 5, 30, 400)))]


class RunOut(unittest.TestCase, Exactly):
    def test_the_example(self):
        self.exactly(run_out(THREE, ())[1], (3, 3, 3, 0, 1, 3, 0, 1))

    def test_one_house_and_two(self):
        self.exactly(run_out(ONE, ()), (((("over", 0, (), (), 0, None, (), None, ()),), ()), (0,) * 8))
        ended = ("over", 1, (5, 0, 1), ("branch",), 0)
        self.exactly(
            run_out(row_web([5]), ()),
            (((ended + (1, (), None, ()), ended + (0, (), None, ())), ()), (2, 2, 0, 0, 0, 2, 0, 0)))

    def test_the_least_move_is_always_made_without_choices(self):
        for web in named_webs():
            glass = first_glass(web)
            while moves(web, glass):
                glass = moved(web, glass, moves(web, glass)[0])
            self.exactly(run_out(web, ())[0], glass)
            self.exactly(run_out(web, []), run_out(web, ()))

    def test_choices_count_modulo_how_many_moves_there_are(self):
        # Each of these three times there are just 4 moves.
        web = full_web(4, [1, 2, 3, 4, 5, 6])
        wanted = run_out(web, (0, 3, 1))
        self.assertNotEqual(wanted, run_out(web, (0, 0, 0)))
        self.assertNotEqual(wanted, run_out(web, (0, 3, 0)))
        self.exactly(run_out(web, (4, 7, 1 + 20 * 10 ** 18)), wanted)
        self.exactly(run_out(web, (10 ** 4000, 10 ** 4000 + 3, 10 ** 4000 + 1)), wanted)

    def test_the_least_move_behind_the_last_choice(self):
        web = full_web(4, [1, 2, 3, 4, 5, 6])
        for choices in ((1,), (0, 3, 1), (2, 2, 2, 1)):
            self.exactly(run_out(web, choices), run_out(web, choices + (0,) * 90))
        self.assertNotEqual(run_out(web, (0, 3, 1)), run_out(web, (0, 3, 1) + (5,) * 90))

    def test_choices_behind_the_end_do_nothing(self):
        chance = Random(1)
        choices = [chance.randrange(99) for _ in range(500)]
        self.exactly(run_out(THREE, choices), run_out(THREE, choices + [7] * 9))

    def test_many_webs_and_choices_against_a_slow_reckoning(self):
        chance = Random(2)
        for web in run_webs()[::2]:
            for _ in range(3):
                choices = choices_by_chance(chance)
                ahead = list(choices)
                wanted = slow_run_out(web, choices)
                self.exactly(run_out(web, choices), wanted)
                self.exactly(run_out(web, tuple(choices)), wanted)
                self.assertEqual(choices, ahead)

    def test_the_fact_of_ends(self):
        chance = Random(3)
        for web in run_webs():
            for _ in range(4):
                glass, counts = run_out(web, choices_by_chance(chance))
                self.exactly(is_glass(web, glass), True)
                self.assertEqual({state[0] for state in glass[0]}, {"over"})
                self.exactly(glass[1], ())
                self.exactly(marked(web, glass), least_tree(web))
                self.exactly(moves(web, glass), ())

    def test_no_choices(self):
        for thing in odd_things() + [{}, "", b"", range(3), None, 0, {1: 2}]:
            if not isinstance(thing, (list, tuple)):
                self.exactly(self.refused(NoChoices, run_out, THREE, thing).index, -1)
            if isinstance(thing, bool) or not isinstance(thing, int) or thing < 0:
                self.exactly(self.refused(NoChoices, run_out, THREE, [thing]).index, 0)
                self.exactly(self.refused(NoChoices, run_out, THREE, (0, 1, thing, None)).index, 2)
                self.exactly(self.refused(NoChoices, run_out, ONE, [7] * 400 + [thing]).index, 400)

    def test_the_first_that_is_no_number(self):
        self.exactly(self.refused(NoChoices, run_out, THREE, (True,)).index, 0)
        self.exactly(self.refused(NoChoices, run_out, THREE, (1, False, -1)).index, 1)
        self.exactly(self.refused(NoChoices, run_out, THREE, (1, 2, -1)).index, 2)
        self.exactly(self.refused(NoChoices, run_out, THREE, [nested(39, lambda thing: [thing])]).index, 0)


class Bounds(unittest.TestCase, Exactly):
    def test_the_example(self):
        self.exactly(bounds(THREE), (3, 3, 6, 0, 3, 3, 1))

    def test_one_house_and_two(self):
        self.exactly(bounds(ONE), (0, 0, 0, 0, 0, 0, 0))
        self.exactly(bounds(row_web([5])), (2, 2, 2, 0, 1, 2, 0))

    def test_at_the_powers_of_two(self):
        for many, top in ((3, 1), (4, 2), (7, 2), (8, 3), (9, 3), (10, 3)):
            below = top - 1
            web = star_web([1] * (many - 1))
            self.exactly(bounds(web), (
                many * top, many * top, many * below + 2 * (many - 1), many * below, many - 1, many * top, many - 2))

    def test_all_sizes(self):
        for web in list(small_webs()) + list(greater_webs()):
            self.exactly(bounds(web), slow_bounds(web))
            self.exactly(bounds(web), slow_bounds(web))

    def test_the_fact_of_numbers(self):
        chance = Random(4)
        greatest = [0] * 7
        for web in run_webs() + [full_web(10, [chance.randrange(99) for _ in range(45)]) for _ in range(9)]:
            for _ in range(8):
                joins, begins, asks, yeses, noes, reports, turns, overs = run_out(web, choices_by_chance(chance))[1]
                taken = (joins + turns, begins, asks, yeses, noes, reports, overs)
                greatest = [max(pair) for pair in zip(greatest, taken)]
                for number, bound in zip(taken, bounds(web)):
                    self.assertLessEqual(number, bound)
                ties = len(web.ties)
                self.assertLessEqual(asks + noes, yeses + 2 * ties)
                self.assertLessEqual(sum(taken), 5 * web.many * (web.many.bit_length() - 1) + 2 * ties)
                self.assertEqual(overs, max(0, web.many - 2))
        # Words of each sort were taken.
        self.assertGreater(min(greatest), 0)


if __name__ == "__main__":
    unittest.main()
