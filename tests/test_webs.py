"""Webs: what makes one, what BadWeb tells, neighbours, ranks."""

import unittest
from itertools import combinations

from leastroads.errors import BadWeb, NoHouse, NoTie
from leastroads.webs import Web, by_ranks, neighbours, rank
from tests.slow import greater_webs, small_webs, weighed
from tests.things import Exactly, not_tuples, odd_things

THREE = Web(3, ((0, 1, 5), (0, 2, 7), (1, 2, 6)))
ROW = ((0, 1, 5), (1, 2, 6))


def row_ties(many, weight):
    return tuple((house, house + 1, weight) for house in range(many - 1))


def all_ties(many, weight):
    return tuple((a, b, weight) for a, b in combinations(range(many), 2))


def star_ties(many, weight):
    return tuple((0, house, weight) for house in range(1, many))


class RightWebs(unittest.TestCase, Exactly):
    def keeps(self, many, ties):
        web = Web(many, ties)
        self.exactly(web.many, many)
        self.exactly(web.ties, ties)

    def test_one_house_without_a_tie(self):
        self.keeps(1, ())

    def test_rows_stars_and_all_ties_of_up_to_ten(self):
        for many in range(1, 11):
            for weight in (0, 1, 500, 999999):
                self.keeps(many, row_ties(many, weight))
                self.keeps(many, star_ties(many, weight))
                self.keeps(many, all_ties(many, weight))

    def test_a_way_round_without_the_first_tie(self):
        self.keeps(3, ((0, 2, 1), (1, 2, 1)))
        self.keeps(4, ((0, 3, 1), (1, 2, 9), (1, 3, 0)))

    def test_a_house_that_is_tied_ahead_of_its_group(self):
        self.keeps(5, ((0, 4, 1), (1, 3, 1), (2, 3, 1), (3, 4, 1)))

    def test_small_and_greater_ones(self):
        for web in list(small_webs()) + list(greater_webs()):
            self.keeps(web.many, web.ties)

    def test_pairs_ascend_by_the_first_house_and_then_by_the_second(self):
        self.keeps(4, ((0, 3, 1), (1, 2, 1), (1, 3, 1)))

    def test_weights_need_not_ascend(self):
        self.keeps(3, ((0, 1, 9), (0, 2, 3), (1, 2, 0)))


class BadMany(unittest.TestCase, Exactly):
    def test_the_edges(self):
        for many in (0, -1, 11, 12, 10 ** 20):
            self.exactly(self.refused(BadWeb, Web, many, ()).part, "many")
        self.exactly(self.refused(BadWeb, Web, 11, row_ties(11, 1)).part, "many")

    def test_odd_things(self):
        for many in odd_things() + [True, "3", (3,), [3]]:
            self.exactly(self.refused(BadWeb, Web, many, ()).part, "many")

    def test_a_flag_is_no_number_of_houses(self):
        self.exactly(self.refused(BadWeb, Web, True, ()).part, "many")

    def test_many_comes_ahead_of_all_else(self):
        for ties in odd_things() + [ROW, ((1, 0, 5),), ((0, 1, 5), (0, 1, 5))]:
            self.exactly(self.refused(BadWeb, Web, 0, ties).part, "many")
            self.exactly(self.refused(BadWeb, Web, "3", ties).part, "many")


class BadTies(unittest.TestCase, Exactly):
    def bad(self, many, ties, part):
        self.exactly(self.refused(BadWeb, Web, many, ties).part, part)

    def test_no_tuple_of_ties(self):
        for ties in not_tuples() + [list(ROW), {tie: 1 for tie in ROW}]:
            self.bad(3, ties, -1)
            self.bad(1, ties, -1)

    def test_a_thing_that_is_no_tie(self):
        for thing in odd_things():
            self.bad(3, (thing,), 0)
            self.bad(3, (thing,) + ROW, 0)
            self.bad(3, ROW[:1] + (thing,) + ROW[1:], 1)
            self.bad(3, ROW + (thing,), 2)

    def test_a_thing_in_the_place_of_a_house_or_a_weight(self):
        for thing in odd_things():
            self.bad(3, ((thing, 1, 5), (1, 2, 6)), 0)
            self.bad(3, ((0, thing, 5), (1, 2, 6)), 0)
            self.bad(3, ((0, 1, 5), (1, 2, thing)), 1)

    def test_a_flag_is_no_house_and_no_weight(self):
        self.bad(2, ((False, 1, 5),), 0)
        self.bad(2, ((0, True, 5),), 0)
        self.bad(2, ((0, 1, True),), 0)
        self.bad(2, ((0, 1, False),), 0)
        self.bad(3, ((0, 1, 5), (True, 2, 5)), 1)

    def test_the_length_and_the_kind_of_a_tie(self):
        for tie in ((), (0,), (0, 1), (0, 1, 5, 6), [0, 1, 5], ((0, 1), 5), ((0, 1, 5),), "015"):
            self.bad(2, (tie,), 0)
            self.bad(3, ((0, 1, 5), tie), 1)

    def test_the_lesser_house_comes_first(self):
        for tie in ((1, 0, 5), (0, 0, 5), (1, 1, 5), (2, 1, 5)):
            self.bad(3, (tie,) + ROW, 0)
        self.bad(3, ((0, 1, 5), (2, 1, 6)), 1)
        self.bad(3, ((0, 1, 5), (2, 2, 6)), 1)

    def test_houses_of_the_web_alone(self):
        for tie in ((0, 2, 5), (1, 2, 5), (-1, 1, 5), (-2, -1, 5), (2, 3, 5), (0, 10 ** 20, 5)):
            self.bad(2, (tie,), 0)
        self.bad(10, row_ties(10, 1) + ((9, 10, 1),), 9)
        self.bad(1, ((0, 1, 5),), 0)
        self.bad(1, ((0, 0, 5),), 0)

    def test_the_edges_of_weights(self):
        for weight in (-1, 1000000, 1000001, 10 ** 20, -(10 ** 20)):
            self.bad(2, ((0, 1, weight),), 0)
            self.bad(3, ((0, 1, 5), (1, 2, weight)), 1)

    def test_ties_doubled_or_out_of_order(self):
        self.bad(3, ((0, 1, 5), (0, 1, 5), (1, 2, 6)), 1)
        self.bad(3, ((0, 1, 5), (0, 1, 6), (1, 2, 6)), 1)
        self.bad(3, ((0, 1, 5), (1, 2, 6), (1, 2, 7)), 2)
        self.bad(3, ((1, 2, 6), (0, 1, 5)), 1)
        self.bad(3, ((0, 2, 6), (0, 1, 7)), 1)
        self.bad(4, ((0, 1, 5), (1, 3, 5), (1, 2, 9), (2, 3, 1)), 2)
        self.bad(4, ((0, 3, 5), (1, 2, 5), (0, 1, 9)), 2)

    def test_the_first_wrong_one_is_told(self):
        self.bad(3, ((0, 1, 5), (1, 2, -1), None), 1)
        self.bad(3, ((0, 1, 5), (0, 1, 5), None), 1)
        self.bad(3, ((0, 1, 5), None, (0, 1, 5)), 1)
        self.bad(3, (None, (0, 1, 5), (0, 1, 5)), 0)
        self.bad(3, ((0, 1, 5), (1, 2, 5), (1, 2, 5), (0, 3, 5)), 2)

    def test_the_order_is_asked_against_the_one_ahead_alone(self):
        self.bad(4, ((0, 1, 5), (2, 3, 5), (1, 2, 5), (0, 2, 5)), 2)

    def test_so_many_ties(self):
        self.bad(3, ((0, 1, 5),) * 20000, 1)
        self.bad(3, ROW + (None,) * 19000, 2)


class NotJoined(unittest.TestCase, Exactly):
    def apart(self, many, ties):
        self.exactly(self.refused(BadWeb, Web, many, ties).part, "joined")

    def test_without_ties(self):
        for many in range(2, 11):
            self.apart(many, ())

    def test_a_house_apart(self):
        self.apart(3, ((0, 1, 5),))
        self.apart(3, ((0, 2, 5),))
        self.apart(3, ((1, 2, 5),))
        self.apart(10, all_ties(9, 1))

    def test_two_groups_apart(self):
        self.apart(4, ((0, 1, 5), (2, 3, 5)))
        self.apart(4, ((0, 3, 5), (1, 2, 5)))
        self.apart(6, ((0, 1, 5), (0, 2, 5), (1, 2, 5), (3, 4, 5), (3, 5, 5), (4, 5, 5)))

    def test_each_row_without_one_of_its_ties(self):
        for many in range(2, 11):
            ties = row_ties(many, 3)
            for at in range(many - 1):
                self.apart(many, ties[:at] + ties[at + 1:])

    def test_a_wrong_tie_comes_ahead(self):
        self.exactly(self.refused(BadWeb, Web, 4, ((0, 1, 5), (0, 1, 5))).part, 1)
        self.exactly(self.refused(BadWeb, Web, 4, ((0, 1, 1000000),)).part, 0)
        self.exactly(self.refused(BadWeb, Web, 4, []).part, -1)
        self.exactly(self.refused(BadWeb, Web, 4, (None,)).part, 0)


class Equality(unittest.TestCase, Exactly):
    def differ(self, one, other):
        self.assertFalse(one == other)
        self.assertTrue(one != other)
        self.assertFalse(other == one)
        self.assertTrue(other != one)

    def test_equal_if_both_are(self):
        for web in list(small_webs())[:200] + list(greater_webs()):
            same = Web(web.many, tuple(tuple(list(tie)) for tie in web.ties))
            self.assertIs(web == same, True)
            self.assertIs(web != same, False)
            self.assertIs(web == web, True)

    def test_unequal_if_something_is_another(self):
        self.differ(THREE, Web(3, ((0, 1, 5), (0, 2, 7), (1, 2, 5))))
        self.differ(THREE, Web(3, ((0, 1, 6), (0, 2, 7), (1, 2, 6))))
        self.differ(THREE, Web(3, ROW))
        self.differ(THREE, Web(3, ((0, 1, 5), (0, 2, 7))))
        self.differ(Web(1, ()), Web(2, ((0, 1, 0),)))

    def test_webs_of_alike_ranks_by_other_weights_are_unequal(self):
        self.differ(weighed(3, ((0, 1), (1, 2)), (1, 2)), weighed(3, ((0, 1), (1, 2)), (1, 3)))

    def test_nothing_of_another_kind_is_equal(self):
        for web in (THREE, Web(1, ())):
            same = (web.many, web.ties)
            others = [thing for thing in odd_things() if not isinstance(thing, Web)]
            for thing in others + [same, list(same), web.many, web.ties, Web, {"many": web.many}]:
                self.differ(web, thing)

    def test_nothing_of_another_class_with_the_same_attributes_is_equal(self):
        class Other:
            def __init__(self, many, ties):
                self.many = many
                self.ties = ties

        self.differ(THREE, Other(THREE.many, THREE.ties))


class Neighbours(unittest.TestCase, Exactly):
    def test_the_example(self):
        self.exactly(neighbours(THREE, 1), (0, 2))

    def test_one_house(self):
        self.exactly(neighbours(Web(1, ()), 0), ())

    def test_both_ends_of_each_tie(self):
        for web in list(small_webs()) + list(greater_webs()):
            for house in range(web.many):
                tied = [tie for tie in web.ties if house in tie[:2]]
                others = sorted(a + b - house for a, b, weight in tied)
                self.exactly(neighbours(web, house), tuple(others))

    def test_ascending_whatever_the_weights(self):
        web = Web(4, ((0, 2, 9), (1, 2, 5), (2, 3, 1)))
        self.exactly(neighbours(web, 2), (0, 1, 3))

    def test_a_weight_is_no_house(self):
        web = Web(4, ((0, 1, 3), (1, 2, 0), (2, 3, 1)))
        self.exactly(neighbours(web, 3), (2,))
        self.exactly(neighbours(web, 0), (1,))

    def test_no_house(self):
        for thing in odd_things() + [3, 4, -1, -3, "1", (1,), True, False]:
            self.refused(NoHouse, neighbours, THREE, thing)
        self.refused(NoHouse, neighbours, Web(1, ()), 1)
        self.refused(NoHouse, neighbours, Web(10, row_ties(10, 1)), 10)


class Ranks(unittest.TestCase, Exactly):
    def test_the_example(self):
        self.exactly(rank(THREE, 2, 0), (7, 0, 2))

    def test_each_tie_from_both_ends(self):
        for web in list(small_webs()) + list(greater_webs()):
            for a, b, weight in web.ties:
                self.exactly(rank(web, a, b), (weight, a, b))
                self.exactly(rank(web, b, a), (weight, a, b))

    def test_no_tie(self):
        web = Web(4, ((0, 1, 5), (1, 2, 6), (2, 3, 7)))
        tied = [(0, 1), (1, 2), (2, 3)]
        for one in range(4):
            for other in range(4):
                if (one, other) not in tied and (other, one) not in tied:
                    self.refused(NoTie, rank, web, one, other)

    def test_no_tie_of_a_house_with_itself(self):
        for house in range(3):
            self.refused(NoTie, rank, THREE, house, house)
        self.refused(NoTie, rank, Web(1, ()), 0, 0)

    def test_no_house_for_either(self):
        for thing in odd_things() + [3, -1, -2, True, False, "0"]:
            self.refused(NoHouse, rank, THREE, thing, 1)
            self.refused(NoHouse, rank, THREE, 1, thing)
            self.refused(NoHouse, rank, THREE, thing, thing)
        self.refused(NoHouse, rank, THREE, False, 1)
        self.refused(NoHouse, rank, THREE, 0, True)

    def test_no_house_comes_ahead_of_no_tie(self):
        web = Web(3, ROW)
        self.refused(NoTie, rank, web, 0, 2)
        self.refused(NoHouse, rank, web, 0, 3)
        self.refused(NoHouse, rank, web, 3, 0)
        self.refused(NoHouse, rank, web, 3, 3)


class ByRanks(unittest.TestCase, Exactly):
    def test_the_example(self):
        self.exactly(by_ranks(THREE), ((0, 1), (1, 2), (0, 2)))

    def test_without_ties(self):
        self.exactly(by_ranks(Web(1, ())), ())

    def test_weights_alike_go_by_the_pairs(self):
        web = Web(4, ((0, 2, 4), (0, 3, 4), (1, 2, 4), (1, 3, 0), (2, 3, 4)))
        self.exactly(by_ranks(web), ((1, 3), (0, 2), (0, 3), (1, 2), (2, 3)))

    def test_numbers_and_not_their_figures_are_compared(self):
        web = Web(3, ((0, 1, 10), (0, 2, 9), (1, 2, 100)))
        self.exactly(by_ranks(web), ((0, 2), (0, 1), (1, 2)))

    def test_each_tie_is_lighter_than_the_next(self):
        for web in list(small_webs()) + list(greater_webs()):
            ranks = [(weight, a, b) for a, b, weight in web.ties]
            self.exactly(by_ranks(web), tuple((a, b) for weight, a, b in sorted(ranks)))


class Unchanged(unittest.TestCase, Exactly):
    def test_a_web_stays_and_tells_the_same_again(self):
        for web in list(small_webs())[::7] + list(greater_webs()):
            ahead = repr((web.many, web.ties))
            calls = [(by_ranks, (web,))]
            calls += [(neighbours, (web, house)) for house in range(web.many)]
            calls += [(rank, (web, b, a)) for a, b, weight in web.ties]
            for call, things in calls:
                self.exactly(call(*things), call(*things))
            same = Web(web.many, web.ties)
            self.exactly(by_ranks(same), by_ranks(web))
            self.assertEqual(repr((web.many, web.ties)), ahead)

    def test_a_call_that_raises_changes_nothing(self):
        web = Web(3, ROW)
        for thing in odd_things():
            self.refused(NoHouse, neighbours, web, thing)
            self.refused(NoHouse, rank, web, 0, thing)
        self.refused(NoTie, rank, web, 0, 2)
        self.exactly((web.many, web.ties), (3, ROW))


if __name__ == "__main__":
    unittest.main()
