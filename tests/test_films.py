"""Reels sought there and back; pictures of glasses, marks and trees; errors in their order."""

import unittest
from random import Random

from leastroads.errors import BadMoves, NoGlass, NoMoment, NoNumber, NoTree
from leastroads.films import Reel, drawn, drawn_marks, drawn_tree
from leastroads.glass import first_glass
from leastroads.trees import least_tree
from leastroads.webs import Web
from tests.orders import by_chance, full_web, least_first, named_webs, orders, ring_web, row_web, run_webs, star_web
from tests.slow import slow_trees, small_webs
from tests.slow_films import SlowReel, glasses_of, slow_drawn, slow_drawn_marks, slow_drawn_tree, slow_run
from tests.slow_glass import slow_first, slow_moved, slow_moves
from tests.slow_states import state_by_chance, word_by_chance
from tests.things import Exactly, odd_things

THREE = Web(3, ((0, 1, 5), (0, 2, 7), (1, 2, 6)))
ONE = Web(1, ())
TWO = row_web([5])


def told(reel):
    return (reel.stands(), reel.glass_there(), reel.kept(), reel.worked())


class Seeks(unittest.TestCase, Exactly):
    def test_at_first(self):
        for web in run_webs()[::6]:
            moves = slow_run(web, least_first)
            for every in (1, 7, 500):
                self.exactly(told(Reel(web, moves, every)), (0, first_glass(web), (0,), 0))
        self.exactly(told(Reel(ONE, (), 3)), (0, first_glass(ONE), (0,), 0))

    def test_by_hand(self):
        moves = slow_run(THREE, least_first)
        reel = Reel(THREE, moves, 4)
        for at, kept, worked in (
                (3, (0,), 3), (3, (0,), 0), (4, (0, 4), 1), (2, (0, 4), 2), (6, (0, 4), 2), (5, (0, 4), 1),
                (7, (0, 4), 2), (13, (0, 4, 8, 12), 6), (11, (0, 4, 8, 12), 3), (12, (0, 4, 8, 12), 0),
                (0, (0, 4, 8, 12), 0),
                (9, (0, 4, 8, 12), 1)):
            self.exactly(reel.seek(at), None)
            self.exactly((reel.stands(), reel.kept(), reel.worked()), (at, kept, worked))
            self.exactly(reel.glass_there(), glasses_of(THREE, moves)[at])

    def test_there_and_back(self):
        chance = Random(1)
        for web in run_webs()[::4]:
            moves = slow_run(web, by_chance(chance.random()))
            for every in (1, 2, chance.randint(3, 12), 500):
                reel, slow = Reel(web, chance.choice((list, tuple))(moves), every), SlowReel(web, moves, every)
                for _ in range(12):
                    at = chance.choice((0, len(moves), chance.randint(0, len(moves)), min(len(moves), slow.at + 1)))
                    self.exactly(reel.seek(at), slow.seek(at))
                    self.exactly(told(reel), slow.told())

    def test_a_seek_to_where_it_came_makes_less_than_every(self):
        moves = slow_run(full_web(4, [1, 2, 3, 4, 5, 6]), least_first)
        for every in (1, 3, 10):
            reel = Reel(full_web(4, [1, 2, 3, 4, 5, 6]), moves, every)
            reel.seek(len(moves))
            for at in list(range(len(moves) + 1)) + list(range(len(moves), -1, -1)):
                reel.seek(at)
                self.assertLess(reel.worked(), every)

    def test_all_are_kept(self):
        web = full_web(10, list(range(45)))
        moves = slow_run(web, by_chance(9))
        self.assertGreater(len(moves), 100)
        reel = Reel(web, moves, 1)
        reel.seek(len(moves))
        self.exactly(reel.kept(), tuple(range(len(moves) + 1)))
        self.exactly(reel.worked(), len(moves))
        reel.seek(100)
        self.exactly(reel.worked(), 0)
        self.exactly(reel.glass_there(), glasses_of(web, moves[:100])[-1])

    def test_what_is_passed_may_change_later(self):
        moves = slow_run(THREE, least_first)
        ahead = list(moves)
        reel = Reel(THREE, moves, 5)
        reel.seek(7)
        self.exactly(moves, ahead)
        moves.clear()
        reel.seek(len(ahead))
        self.exactly(reel.glass_there(), glasses_of(THREE, ahead)[-1])

    def test_copies_go_on_apart(self):
        chance = Random(3)
        moves = slow_run(full_web(4, [0] * 6), by_chance(2))
        pairs = [(Reel(full_web(4, [0] * 6), moves, 6), SlowReel(full_web(4, [0] * 6), moves, 6))]
        for _ in range(120):
            reel, slow = chance.choice(pairs)
            if len(pairs) < 5 and chance.random() < 0.1:
                twin = reel.copy()
                self.assertIs(type(twin), Reel)
                pairs.append((twin, slow.copy()))
            at = chance.randint(0, len(moves))
            reel.seek(at)
            slow.seek(at)
            for each, beside in pairs:
                self.exactly(told(each), beside.told())

    def test_a_reel_is_equal_to_nothing_else(self):
        for thing in odd_things() + [(), 0]:
            self.assertFalse(Reel(ONE, (), 1) == thing)


class ReelErrors(unittest.TestCase, Exactly):
    def test_bad_moves(self):
        moves = slow_run(THREE, by_chance(4))
        for at in range(len(moves) + 1):
            for wrong in (
                    None, ("wake",), ("wake", 3), ("wake", True), ("take", 0, 0), ("take", 0, 3), ["wake", 0],
                    ("take", 0, 1, ("yes",)),
                    ("over", 0), moves[0] if at else ("take", 0, 1), "wake", ("wake", None), (("wake", 0),),
                    ("take", False, True)):
                for kind in (list, tuple):
                    error = self.refused(BadMoves, Reel, THREE, kind(moves[:at] + [wrong] + moves[at:]), 5)
                    self.exactly(error.index, at)

    def test_moves_changed_about(self):
        chance = Random(5)
        moves = slow_run(THREE, by_chance(6))
        for _ in range(60):
            other = list(moves)
            one, two = chance.randrange(len(moves)), chance.randrange(len(moves))
            other[one], other[two] = other[two], other[one]
            wrong = self.first_wrong(THREE, other)
            if wrong is None:
                self.exactly(Reel(THREE, other, 1).stands(), 0)
            else:
                self.exactly(self.refused(BadMoves, Reel, THREE, other, 1).index, wrong)

    def first_wrong(self, web, moves):
        glass = slow_first(web)
        for at, move in enumerate(moves):
            if move not in slow_moves(web, glass):
                return at
            glass = slow_moved(web, glass, move)
        return None

    def test_odd_moves(self):
        for thing in odd_things() + [None, "wake", ("wake", 0), {("wake", 0): 1}]:
            for every in (1, 0, None):
                if not isinstance(thing, (list, tuple)):
                    self.exactly(self.refused(BadMoves, Reel, TWO, thing, every).index, -1)
                elif len(thing) > 0:
                    self.exactly(self.refused(BadMoves, Reel, TWO, thing, every).index, 0)
                self.exactly(self.refused(BadMoves, Reel, TWO, [("wake", 0), thing], every).index, 1)
                self.exactly(self.refused(BadMoves, Reel, TWO, (("wake", thing),), every).index, 0)

    def test_every(self):
        moves = [("wake", 0)]
        for thing in odd_things() + [0, 501, 1000, -1, True, False, "1", (1,), [1], None]:
            self.refused(NoNumber, Reel, TWO, moves, thing)
            self.refused(NoNumber, Reel, TWO, (), thing)
        for every in (1, 2, 499, 500):
            self.exactly(Reel(TWO, moves, every).kept(), (0,))

    def test_seeks_of_no_moment(self):
        moves = slow_run(THREE, least_first)
        reel = Reel(THREE, moves, 3)
        reel.seek(5)
        ahead = told(reel)
        for thing in odd_things() + [len(moves) + 1, -1, True, False, "1", (1,), None, 10 ** 20]:
            self.refused(NoMoment, reel.seek, thing)
            self.exactly(told(reel), ahead)
        reel.seek(len(moves))


class Pictures(unittest.TestCase, Exactly):
    def same(self, web, glass):
        ahead = repr(glass)
        self.exactly(drawn(web, glass), slow_drawn(web, glass))
        self.exactly(drawn_marks(web, glass), slow_drawn_marks(web, glass))
        self.exactly(repr(glass), ahead)

    def test_begun_running_and_ended(self):
        for web in run_webs()[::3]:
            for order in orders()[::3]:
                glasses = glasses_of(web, slow_run(web, order))
                for glass in glasses[:3] + glasses[3:-2:9] + glasses[-2:]:
                    self.same(web, glass)

    def test_glasses_that_never_come(self):
        chance = Random(8)
        for web in run_webs()[2::5]:
            for _ in range(4):
                states = tuple(state_by_chance(chance, web, house) for house in range(web.many))
                ways = {chance.choice(((a, b), (b, a))) for a, b, _ in web.ties}
                ways = tuple(
                    (one, other, tuple(word_by_chance(chance, web) for _ in range(chance.randint(1, 4))))
                    for one, other in sorted(ways))
                self.same(web, (states, ways))

    def test_drawn_by_hand(self):
        self.exactly(drawn(ONE, first_glass(ONE)), "0 asleep 0 - 0 - - -\n")
        states = (
            ("seeks", 1, (5, 0, 1), ("branch", "refused"), 2, 1, ((7, 0, 2), 2), 2, ((1, ("report", ())),)),
            ("found", 12 % 10, (), ("plain", "branch"), 0, None, (), None, ()),
            ("over", 9, (7, 0, 2), ("branch", "plain"), 10 ** 20 - 1, 0, ((5, 0, 1), 0), None, ()))
        ways = (
            (0, 1, (("join", 0), ("begin", 1, (5, 0, 1), 1), ("ask", 3, (6, 1, 2)), ("yes",))),
            (2, 0, (("report", ()), ("report", (7, 0, 2)), ("over",))), (2, 1, (("turn",), ("no",))))
        self.exactly(drawn(THREE, (states, ways)), "".join([
            "0 seeks 1 5:0:1 2 1 7:0:2>2 2\n", "1 found 2 - 0 - - -\n",
            "2 over 9 7:0:2 99999999999999999999 0 5:0:1>0 -\n",
            "0>1 join,0 begin,1,5:0:1,1 ask,3,6:1:2 yes\n", "2>0 report,- report,7:0:2 over\n", "2>1 turn no\n"]))
        self.exactly(drawn_marks(THREE, (states, ways)), "o+x\n-o+\n+-o\n")

    def test_a_count_without_a_limit(self):
        for count, figures in ((10 ** 4000, "1" + "0" * 4000), (10 ** 5000 - 1, "9" * 5000),
                (10 ** 18, "1" + "0" * 18)):
            state = ("found", 0, (), ("plain",), count, None, (), None, ())
            picture = drawn(TWO, ((state, first_glass(TWO)[0][1]), ()))
            self.exactly(picture, f"0 found 0 - {figures} - - -\n1 asleep 0 - 0 - - -\n")

    def test_marks_by_hand(self):
        self.exactly(drawn_marks(ONE, first_glass(ONE)), "o\n")
        self.exactly(drawn_marks(THREE, first_glass(THREE)), "o--\n-o-\n--o\n")
        self.exactly(drawn_marks(row_web([1, 2]), first_glass(row_web([1, 2]))), "o-.\n-o-\n.-o\n")
        glass = glasses_of(THREE, slow_run(THREE, least_first))[-1]
        self.exactly(drawn_marks(THREE, glass), "o+x\n+o+\nx+o\n")

    def test_no_glass(self):
        good = first_glass(THREE)
        wrong = odd_things() + [
            good[0], list(good), (good[0], []), (good[0][:2], ()), (good[0], ((0, 1, ()),)), (list(good[0]), ()),
            good + ((),),
            first_glass(TWO), (good[0], ((0, 1, (("join", 10),)),)), None]
        for thing in wrong:
            self.refused(NoGlass, drawn, THREE, thing)
            self.refused(NoGlass, drawn_marks, THREE, thing)


class Trees(unittest.TestCase, Exactly):
    def test_by_hand(self):
        self.exactly(drawn_tree(ONE, ()), "0\n")
        self.exactly(drawn_tree(TWO, ((0, 1),)), "0\n  1 5\n")
        self.exactly(drawn_tree(THREE, ((0, 1), (1, 2))), "0\n  1 5\n    2 6\n")
        self.exactly(drawn_tree(THREE, ((0, 2), (1, 2))), "0\n  2 7\n    1 6\n")
        self.exactly(drawn_tree(star_web([4, 3, 2]), ((0, 1), (0, 2), (0, 3))), "0\n  1 4\n  2 3\n  3 2\n")
        web = Web(5, ((0, 2, 1), (0, 4, 2), (1, 2, 3), (2, 3, 999999)))
        self.exactly(drawn_tree(web, least_tree(web)), "0\n  2 1\n    1 3\n    3 999999\n  4 2\n")

    def test_each_tree_of_many_webs(self):
        webs = list(small_webs())[::7] + [ring_web([5, 1, 4, 2, 3, 0]), full_web(5, [7, 3, 9, 1, 4, 4, 0, 8, 2, 6])]
        for web in webs:
            for tree in slow_trees(web)[:40]:
                self.exactly(drawn_tree(web, tree), slow_drawn_tree(web, tree))

    def test_least_trees(self):
        for web in list(named_webs()) + run_webs()[::3]:
            self.exactly(drawn_tree(web, least_tree(web)), slow_drawn_tree(web, least_tree(web)))

    def test_no_tree(self):
        for thing in odd_things() + [
                (), ((0, 1),), [(0, 1), (1, 2)], ((1, 2), (0, 1)), ((0, 1), (0, 2), (1, 2)), ((0, 1), (2, 1)),
                ((0, True), (1, 2)),
                ((0, 1), (0, 1)), ([0, 1], [1, 2]), None]:
            self.refused(NoTree, drawn_tree, THREE, thing)


if __name__ == "__main__":
    unittest.main()
