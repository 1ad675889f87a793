"""Papers that a tree is the least, and what is better."""

import unittest

from leastroads.errors import NoTree
from leastroads.trees import better, is_paper, is_tree, least_tree, paper_of, way
from leastroads.webs import Web
from tests.slow import (
    greater_webs, pairs_of, slow_exchanges, slow_least, slow_paper, slow_trees, small_webs,
)
from tests.things import Exactly, odd_things

THREE = Web(3, ((0, 1, 5), (0, 2, 7), (1, 2, 6)))
LEAST = ((0, 1), (1, 2))
OTHER = ((0, 1), (0, 2))
ONE = Web(1, ())
ROW = Web(3, ((0, 1, 5), (1, 2, 6)))
RING = Web(4, ((0, 1, 2), (0, 3, 2), (1, 2, 2), (2, 3, 2)))
FULL = Web(4, ((0, 1, 1), (0, 2, 8), (0, 3, 9), (1, 2, 2), (1, 3, 7), (2, 3, 3)))
NO_TREES = [(), ((0, 1),), [(0, 1), (1, 2)], ((1, 2), (0, 1)), ((0, 1), (True, 2)), ((0, 1),) * 2]


def trees_to_try(web):
    """Of a small web all trees, of a greater one those a tie away from the least one."""
    if web.many < 5:
        return slow_trees(web)
    least = least_tree(web)
    out = [least]
    for gone in least:
        for pair in pairs_of(web):
            some = tuple(sorted([each for each in least if each != gone] + [pair]))
            if is_tree(web, some) and some not in out:
                out.append(some)
    return out


def webs_and_trees():
    for web in list(small_webs()) + list(greater_webs())[::2]:
        for tree in trees_to_try(web):
            yield web, tree


class PaperOf(unittest.TestCase, Exactly):
    def test_the_example(self):
        self.exactly(paper_of(THREE, LEAST), ((0, 1, 2),))

    def test_a_web_without_other_ties(self):
        self.exactly(paper_of(ONE, ()), ())
        self.exactly(paper_of(ROW, LEAST), ())

    def test_a_row_for_each_other_tie_from_its_lesser_end(self):
        self.exactly(
            paper_of(FULL, ((0, 1), (1, 2), (2, 3))), ((0, 1, 2), (0, 1, 2, 3), (1, 2, 3)))

    def test_weights_alike(self):
        self.exactly(paper_of(RING, ((0, 1), (0, 3), (1, 2))), ((2, 1, 0, 3),))
        self.assertIsNone(paper_of(RING, ((0, 1), (1, 2), (2, 3))))
        self.assertIsNone(paper_of(RING, ((0, 3), (1, 2), (2, 3))))

    def test_none_for_another_tree(self):
        self.assertIsNone(paper_of(THREE, OTHER))
        self.assertIsNone(paper_of(THREE, ((0, 2), (1, 2))))

    def test_the_definition(self):
        for web, tree in webs_and_trees():
            self.exactly(paper_of(web, tree), slow_paper(web, tree))

    def test_the_fact_of_papers(self):
        for web, tree in webs_and_trees():
            least = tree == slow_least(web)
            self.assertIs(paper_of(web, tree) is not None, least)
            self.assertIs(better(web, tree) is None, least)

    def test_no_tree(self):
        for thing in odd_things() + NO_TREES:
            self.refused(NoTree, paper_of, THREE, thing)
        self.refused(NoTree, paper_of, ONE, [])


class IsPaper(unittest.TestCase, Exactly):
    def test_just_the_paper(self):
        self.exactly(is_paper(THREE, LEAST, ((0, 1, 2),)), True)
        self.exactly(is_paper(ROW, LEAST, ()), True)
        self.exactly(is_paper(ONE, (), ()), True)
        for web, tree in webs_and_trees():
            paper = slow_paper(web, tree)
            self.exactly(is_paper(web, tree, paper), paper is not None)

    def test_what_would_be_one_if_the_tree_were_the_least(self):
        self.exactly(is_paper(THREE, OTHER, ((1, 0, 2),)), False)
        for web, tree in webs_and_trees():
            rows = tuple(way(web, tree, a, b) for a, b in pairs_of(web) if (a, b) not in tree)
            self.exactly(is_paper(web, tree, rows), tree == slow_least(web))

    def test_near_things_for_one_row(self):
        for thing in (
            (), (0, 1, 2), [(0, 1, 2)], ([0, 1, 2],), [[0, 1, 2]], ((2, 1, 0),), ((0, 2),),
            ((0, 1, 2), (0, 1, 2)), ((0, 1, 2), ()), ((0, 1),), ((1, 2),), ((0, 1, 2, 1, 2),),
            ((0, 1, 0, 1, 2),), ((0, True, 2),), ((False, 1, 2),), ((False, True, 2),),
            (((0, 1), (1, 2)),), (((0, 1, 2),),), ("012",), (b"\x00\x01\x02",), {0: (0, 1, 2)},
            ((0, 1, None),), ((0, 1, 3),), ((0, -2, 2),), (None,), ((0, 1, [2]),), ((),),
            ((0, 1, 2), None), (range(3),),
        ):
            self.exactly(is_paper(THREE, LEAST, thing), False)

    def test_near_things_for_more_rows(self):
        tree = ((0, 1), (1, 2), (2, 3))
        rows = ((0, 1, 2), (0, 1, 2, 3), (1, 2, 3))
        self.exactly(is_paper(FULL, tree, rows), True)
        for at, row in enumerate(rows):
            self.exactly(is_paper(FULL, tree, rows[:at] + rows[at + 1:]), False)
            for thing in [list(row), row[::-1], row + row[-1:], (), (row,)] + odd_things():
                self.exactly(is_paper(FULL, tree, rows[:at] + (thing,) + rows[at + 1:]), False)
            flags = tuple(bool(house) if house < 2 else house for house in row)
            self.exactly(is_paper(FULL, tree, rows[:at] + (flags,) + rows[at + 1:]), False)
        self.exactly(is_paper(FULL, tree, rows[::-1]), False)
        self.exactly(is_paper(FULL, tree, (rows[1], rows[0], rows[2])), False)
        self.exactly(is_paper(FULL, tree, list(rows)), False)
        self.exactly(is_paper(FULL, tree, rows + ((0, 1),)), False)

    def test_near_things_where_there_are_no_rows(self):
        for thing in odd_things() + [[], "", b"", {}, 0, False, None, ((),), range(0)]:
            self.exactly(is_paper(ONE, (), thing), False)
            self.exactly(is_paper(ROW, LEAST, thing), False)

    def test_odd_things(self):
        for thing in odd_things():
            ahead = repr(thing)
            for web, tree in ((THREE, LEAST), (THREE, OTHER), (RING, least_tree(RING))):
                self.exactly(is_paper(web, tree, thing), False)
                self.exactly(is_paper(web, tree, (thing,)), False)
                self.exactly(is_paper(web, tree, ((0, thing, 2),)), False)
            self.assertEqual(repr(thing), ahead)

    def test_no_paper_of_a_tree_that_is_not_the_least(self):
        for thing in [None, (), ((0, 1, 2),), ((1, 0, 2),)] + odd_things():
            self.exactly(is_paper(THREE, OTHER, thing), False)

    def test_no_tree_comes_ahead(self):
        for thing in odd_things() + NO_TREES:
            self.refused(NoTree, is_paper, THREE, thing, ((0, 1, 2),))
            self.refused(NoTree, is_paper, THREE, thing, thing)
        self.refused(NoTree, is_paper, ONE, [], ())


class Better(unittest.TestCase, Exactly):
    def test_the_example(self):
        self.exactly(better(THREE, OTHER), ((1, 2), (0, 2)))

    def test_none_for_the_least(self):
        self.assertIsNone(better(THREE, LEAST))
        self.assertIsNone(better(ONE, ()))
        self.assertIsNone(better(ROW, LEAST))

    def test_the_least_pair_and_not_the_lightest(self):
        tree = ((0, 3), (1, 3), (2, 3))
        self.exactly(better(FULL, tree), ((0, 1), (0, 3)))
        web = Web(4, ((0, 1, 9), (0, 2, 8), (0, 3, 9), (1, 2, 1), (1, 3, 0)))
        self.exactly(better(web, ((0, 1), (0, 3), (1, 2))), ((0, 2), (0, 1)))

    def test_the_least_tie_on_the_way_and_not_the_first_or_the_heaviest(self):
        web = Web(4, ((0, 1, 5), (0, 2, 9), (1, 3, 7), (2, 3, 4)))
        self.exactly(better(web, ((0, 1), (0, 2), (1, 3))), ((2, 3), (0, 1)))
        web = Web(4, ((0, 2, 6), (0, 3, 5), (1, 2, 7), (1, 3, 4)))
        self.exactly(better(web, ((0, 2), (0, 3), (1, 2))), ((1, 3), (0, 2)))

    def test_weights_alike(self):
        self.exactly(better(RING, ((0, 1), (1, 2), (2, 3))), ((0, 3), (1, 2)))
        self.exactly(better(RING, ((0, 3), (1, 2), (2, 3))), ((0, 1), (0, 3)))
        self.assertIsNone(better(RING, ((0, 1), (0, 3), (1, 2))))

    def test_the_definition(self):
        for web, tree in webs_and_trees():
            self.exactly(better(web, tree), min(slow_exchanges(web, tree), default=None))

    def test_the_exchange_makes_another_tree(self):
        for web, tree in webs_and_trees():
            pair = better(web, tree)
            if pair is not None:
                left = [each for each in tree if each != pair[1]]
                self.assertTrue(is_tree(web, tuple(sorted(left + [pair[0]]))))

    def test_no_tree(self):
        for thing in odd_things() + NO_TREES:
            self.refused(NoTree, better, THREE, thing)
        self.refused(NoTree, better, ONE, [])


class Unchanged(unittest.TestCase, Exactly):
    def test_equal_calls_give_equal_answers_and_change_nothing(self):
        for web, tree in webs_and_trees():
            ahead = repr((web.many, web.ties, tree))
            paper = paper_of(web, tree)
            self.exactly(paper_of(web, tree), paper)
            self.exactly(better(web, tree), better(web, tree))
            self.exactly(is_paper(web, tree, paper), is_paper(web, tree, paper))
            self.exactly(paper_of(Web(web.many, web.ties), tuple(list(tree))), paper)
            self.assertEqual(repr((web.many, web.ties, tree)), ahead)

    def test_lists_that_are_judged_stay(self):
        things = [[(0, 1, 2)], ([2, 1, 0],), [[2, 1, 0], []]]
        ahead = repr(things)
        for thing in things:
            self.exactly(is_paper(THREE, LEAST, thing), False)
            self.refused(NoTree, paper_of, THREE, thing)
            self.refused(NoTree, better, THREE, thing)
        self.assertEqual(repr(things), ahead)


if __name__ == "__main__":
    unittest.main()
