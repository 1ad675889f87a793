"""Trees: the least one, what is one, ways in it, its weight."""

import unittest
from itertools import combinations, permutations

from leastroads.errors import NoHouse, NoTree
from leastroads.trees import is_tree, least_tree, way, weight_of
from leastroads.webs import Web
from tests.slow import (
    greater_webs, pairs_of, small_webs, slow_is_tree, slow_least, slow_ranks, slow_trees, slow_way,
    tiny_webs,
)
from tests.things import Exactly, odd_things

THREE = Web(3, ((0, 1, 5), (0, 2, 7), (1, 2, 6)))
ONE = Web(1, ())
RING = Web(4, ((0, 1, 2), (0, 3, 2), (1, 2, 2), (2, 3, 2)))


class LeastTree(unittest.TestCase, Exactly):
    def test_the_example(self):
        self.exactly(least_tree(THREE), ((0, 1), (1, 2)))

    def test_one_house(self):
        self.exactly(least_tree(ONE), ())

    def test_a_tree_is_its_own_least(self):
        self.exactly(least_tree(Web(4, ((0, 3, 9), (1, 2, 8), (1, 3, 7)))), ((0, 3), (1, 2), (1, 3)))

    def test_weights_alike_go_by_the_pairs(self):
        self.exactly(least_tree(RING), ((0, 1), (0, 3), (1, 2)))
        flat = Web(4, tuple((a, b, 0) for a, b in combinations(range(4), 2)))
        self.exactly(least_tree(flat), ((0, 1), (0, 2), (0, 3)))

    def test_it_ascends_whatever_the_ranks(self):
        self.exactly(least_tree(Web(3, ((0, 1, 9), (0, 2, 999999), (1, 2, 0)))), ((0, 1), (1, 2)))

    def test_the_definition(self):
        for web in list(small_webs()) + list(greater_webs()):
            self.exactly(least_tree(web), slow_least(web))

    def test_it_has_the_least_weight_and_by_ranks_alone(self):
        for web in small_webs():
            ranks = slow_ranks(web)
            least = least_tree(web)
            weights = [sum(ranks[pair][0] for pair in tree) for tree in slow_trees(web)]
            self.exactly(weight_of(web, least), min(weights))
            lightest = min(slow_trees(web), key=lambda tree: sorted(ranks[pair] for pair in tree))
            self.exactly(least, lightest)

    def test_it_is_a_tree(self):
        for web in list(small_webs()) + list(greater_webs()):
            self.exactly(is_tree(web, least_tree(web)), True)

    def test_equal_webs_have_equal_ones(self):
        for web in list(greater_webs()):
            ahead = repr((web.many, web.ties))
            self.exactly(least_tree(web), least_tree(web))
            self.exactly(least_tree(Web(web.many, web.ties)), least_tree(web))
            self.assertEqual(repr((web.many, web.ties)), ahead)


class IsTree(unittest.TestCase, Exactly):
    def test_all_ascending_tuples_of_ties_of_small_webs(self):
        for web in small_webs():
            pairs = pairs_of(web)
            for count in range(len(pairs) + 1):
                for some in combinations(pairs, count):
                    self.exactly(is_tree(web, some), slow_is_tree(web, some))

    def test_one_house(self):
        self.exactly(is_tree(ONE, ()), True)
        for thing in odd_things() + [((),), ((0, 0),), ((0, 1),)]:
            self.exactly(is_tree(ONE, thing), False)

    def test_a_tie_too_few_or_too_many(self):
        for web in list(greater_webs()):
            tree = least_tree(web)
            self.exactly(is_tree(web, tree), True)
            for pair in tree:
                self.exactly(is_tree(web, tuple(each for each in tree if each != pair)), False)
            for pair in pairs_of(web):
                if pair not in tree:
                    self.exactly(is_tree(web, tuple(sorted(tree + (pair,)))), False)

    def test_a_tie_exchanged(self):
        for web in greater_webs():
            tree = least_tree(web)
            for gone in tree:
                left = tuple(pair for pair in tree if pair != gone)
                for pair in pairs_of(web):
                    if pair not in tree:
                        some = tuple(sorted(left + (pair,)))
                        over = {tuple(sorted(step)) for step in zip(
                            slow_way(tree, *pair), slow_way(tree, *pair)[1:])}
                        self.exactly(is_tree(web, some), gone in over)

    def test_a_ring_and_a_house_apart(self):
        web = Web(4, ((0, 1, 1), (0, 2, 1), (1, 2, 1), (2, 3, 1)))
        self.exactly(is_tree(web, ((0, 1), (0, 2), (1, 2))), False)
        self.exactly(is_tree(web, ((0, 1), (0, 2), (2, 3))), True)

    def test_out_of_order(self):
        for web in list(tiny_webs()) + [RING] + list(greater_webs())[::9]:
            tree = least_tree(web)
            if len(tree) < 5:
                for some in permutations(tree):
                    self.exactly(is_tree(web, some), some == tree)
            elif tree:
                self.exactly(is_tree(web, tree[::-1]), False)
                self.exactly(is_tree(web, tree[1:] + tree[:1]), False)

    def test_doubled(self):
        self.exactly(is_tree(THREE, ((0, 1), (0, 1))), False)
        self.exactly(is_tree(THREE, ((0, 1), (0, 1), (1, 2))), False)
        self.exactly(is_tree(THREE, ((0, 1), (1, 2), (1, 2))), False)
        self.exactly(is_tree(RING, ((0, 1), (0, 1), (1, 2))), False)

    def test_pairs_of_no_tie(self):
        row = Web(3, ((0, 1, 5), (1, 2, 6)))
        self.exactly(is_tree(row, ((0, 1), (0, 2))), False)
        self.exactly(is_tree(row, ((0, 2), (1, 2))), False)
        self.exactly(is_tree(THREE, ((0, 1), (2, 1))), False)
        self.exactly(is_tree(THREE, ((1, 0), (1, 2))), False)
        self.exactly(is_tree(THREE, ((0, 1), (1, 3))), False)
        self.exactly(is_tree(THREE, ((0, 1), (1, 1))), False)
        self.exactly(is_tree(THREE, ((-1, 1), (0, 1))), False)
        self.exactly(is_tree(THREE, ((0, 1), (1, -1))), False)

    def test_other_kinds(self):
        for thing in (
            [(0, 1), (1, 2)], ([0, 1], [1, 2]), ((0, 1), [1, 2]), ([0, 1], (1, 2)),
            ((0, 1, 5), (1, 2, 6)), ((0, 1), (1, 2, 6)), ((0,), (1, 2)), {(0, 1): 0, (1, 2): 0},
            ((False, True), (True, 2)), ((0, 1), (True, 2)), ((0, True), (1, 2)),
            ((False, 1), (1, 2)), ("01", "12"), (b"\x00\x01", b"\x01\x02"), (((0, 1), (1, 2)),),
            ((0, 1), None), (None, (1, 2)), ((0, 1), {}), ((0, 1), ([], 2)), ((0, "1"), (1, 2)),
            0, 2, "", THREE, THREE.ties,
        ):
            self.exactly(is_tree(THREE, thing), False)

    def test_odd_things(self):
        for web in (ONE, Web(2, ((0, 1, 5),)), THREE, RING):
            for thing in odd_things():
                ahead = repr(thing)
                self.exactly(is_tree(web, thing), False)
                self.exactly(is_tree(web, (thing,)), False)
                self.exactly(is_tree(web, (thing,) * (web.many - 1) + ((0, 1),)), False)
                self.exactly(is_tree(web, ((0, 1), thing)), False)
                self.exactly(is_tree(web, ((0, thing), (1, 2))), False)
                self.assertEqual(repr(thing), ahead)

    def test_a_tree_need_not_be_the_least(self):
        self.exactly(is_tree(THREE, ((0, 1), (0, 2))), True)
        self.exactly(is_tree(THREE, ((0, 2), (1, 2))), True)


class Way(unittest.TestCase, Exactly):
    def test_both_ends_are_told(self):
        self.exactly(way(THREE, ((0, 1), (1, 2)), 0, 2), (0, 1, 2))
        self.exactly(way(THREE, ((0, 1), (1, 2)), 2, 0), (2, 1, 0))
        self.exactly(way(THREE, ((0, 2), (1, 2)), 0, 1), (0, 2, 1))
        self.exactly(way(THREE, ((0, 1), (1, 2)), 0, 1), (0, 1))

    def test_a_house_and_itself(self):
        self.exactly(way(ONE, (), 0, 0), (0,))
        for house in range(3):
            self.exactly(way(THREE, ((0, 1), (1, 2)), house, house), (house,))

    def test_all_trees_of_small_webs(self):
        for web in list(small_webs())[::3]:
            for tree in slow_trees(web):
                for one in range(web.many):
                    for other in range(web.many):
                        self.exactly(way(web, tree, one, other), slow_way(tree, one, other))

    def test_least_trees_of_greater_webs(self):
        for web in greater_webs():
            tree = least_tree(web)
            for one in range(web.many):
                for other in range(web.many):
                    self.exactly(way(web, tree, one, other), slow_way(tree, one, other))

    def test_a_long_way(self):
        web = Web(10, tuple((house, house + 1, 0) for house in range(9)))
        self.exactly(way(web, least_tree(web), 9, 0), (9, 8, 7, 6, 5, 4, 3, 2, 1, 0))

    def test_no_tree(self):
        for thing in odd_things() + [(), ((0, 1),), [(0, 1), (1, 2)], ((0, 1), (True, 2))]:
            self.refused(NoTree, way, THREE, thing, 0, 1)

    def test_no_house_for_either(self):
        tree = ((0, 1), (1, 2))
        for thing in odd_things() + [3, -1, True, False]:
            self.refused(NoHouse, way, THREE, tree, thing, 0)
            self.refused(NoHouse, way, THREE, tree, 0, thing)
            self.refused(NoHouse, way, THREE, tree, thing, thing)
        self.refused(NoHouse, way, ONE, (), 0, 1)
        self.refused(NoHouse, way, ONE, (), 1, 0)
        self.refused(NoHouse, way, ONE, (), False, 0)

    def test_no_tree_comes_ahead_of_no_house(self):
        for thing in (3, -1, None, True, [0]):
            self.refused(NoTree, way, THREE, ((0, 1),), thing, 0)
            self.refused(NoTree, way, THREE, ((0, 1),), 0, thing)
            self.refused(NoTree, way, THREE, thing, thing, thing)


class WeightOf(unittest.TestCase, Exactly):
    def test_the_example(self):
        self.exactly(weight_of(THREE, ((0, 1), (1, 2))), 11)

    def test_one_house(self):
        self.exactly(weight_of(ONE, ()), 0)

    def test_great_weights(self):
        web = Web(10, tuple((0, house, 999999) for house in range(1, 10)))
        self.exactly(weight_of(web, least_tree(web)), 9 * 999999)

    def test_all_trees_of_small_webs(self):
        for web in small_webs():
            ranks = slow_ranks(web)
            for tree in slow_trees(web):
                self.exactly(weight_of(web, tree), sum([ranks[pair][0] for pair in tree]))

    def test_no_tree(self):
        for thing in odd_things() + [(), ((0, 1),), ((0, 1), (0, 2), (1, 2)), ((1, 2), (0, 1))]:
            self.refused(NoTree, weight_of, THREE, thing)
        self.refused(NoTree, weight_of, ONE, [])


class Unchanged(unittest.TestCase, Exactly):
    def test_equal_calls_give_equal_answers_and_change_nothing(self):
        for web in greater_webs():
            tree = least_tree(web)
            ahead = repr((web.many, web.ties, tree))
            calls = [(least_tree, (web,)), (is_tree, (web, tree)), (weight_of, (web, tree))]
            calls += [(way, (web, tree, house, 0)) for house in range(web.many)]
            for call, things in calls:
                self.exactly(call(*things), call(*things))
            self.assertEqual(repr((web.many, web.ties, tree)), ahead)

    def test_lists_that_are_judged_stay(self):
        things = [[(0, 1), (1, 2)], ([1, 2], [0, 1]), [[1, 2], [0, 1]]]
        ahead = repr(things)
        for thing in things:
            self.exactly(is_tree(THREE, thing), False)
            self.refused(NoTree, weight_of, THREE, thing)
            self.refused(NoTree, way, THREE, thing, 0, 1)
        self.assertEqual(repr(things), ahead)


if __name__ == "__main__":
    unittest.main()
