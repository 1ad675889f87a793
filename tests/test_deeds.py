"""Deeds of a house: waking, hearing each word in each case, words that wait, words that are none."""

import unittest
from itertools import product
from random import Random

from leastroads.errors import NoHouse, NotAsleep, NoWord
from leastroads.states import begun, heard, is_state, woken
from leastroads.webs import Web
from tests.slow import greater_webs, small_webs
from tests.slow_states import SORTS, near, slow_heard, slow_woken, state_by_chance, word_by_chance
from tests.things import Exactly, odd_things

THREE = Web(3, ((0, 1, 5), (0, 2, 7), (1, 2, 6)))
TWO = Web(2, ((0, 1, 5),))
ONE = Web(1, ())
# House 0 has the neighbours 1 to 4; its ties from the lightest on are those to 2, 4, 3, 1.
HUB = Web(6, ((0, 1, 8), (0, 2, 3), (0, 3, 6), (0, 4, 5), (1, 2, 9), (1, 5, 2)))
R1, R2, R3, R4, R12, R15 = (8, 0, 1), (3, 0, 2), (6, 0, 3), (5, 0, 4), (9, 1, 2), (2, 1, 5)
P, B, R = "plain", "branch", "refused"
OVER = ("over",)


def state(
        stage="found", level=3, core=R2, marks=(B, B, P, R), count=0, back=None, best=(), asked=None,
        waits=()):
    return (stage, level, core, marks, count, back, best, asked, waits)


class Hearing(unittest.TestCase, Exactly):
    def hears(self, ahead, sender, word, behind, *out):
        """House 0 of the hub hears a word: its state is this one behind it, and it sends these."""
        self.assertTrue(is_state(HUB, 0, ahead))
        told = repr((ahead, word))
        self.exactly(heard(HUB, 0, ahead, sender, word), (behind, out))
        self.assertEqual(repr((ahead, word)), told)
        self.assertEqual(slow_heard(HUB, 0, ahead, sender, word), (behind, out))

    def none(self, ahead, sender, word):
        self.assertTrue(is_state(HUB, 0, ahead))
        self.refused(NoWord, heard, HUB, 0, ahead, sender, word)
        self.assertIsNone(slow_heard(HUB, 0, ahead, sender, word))


class Waking(unittest.TestCase, Exactly):
    def test_the_example(self):
        self.exactly(
            woken(THREE, 0, begun(THREE, 0)),
            (("found", 0, (), (B, P), 0, None, (), None, ()), ((1, ("join", 0)),)))

    def test_over_its_lightest_tie(self):
        self.exactly(
            woken(HUB, 0, begun(HUB, 0)),
            (("found", 0, (), (P, B, P, P), 0, None, (), None, ()), ((2, ("join", 0)),)))
        alike = Web(3, ((0, 1, 4), (0, 2, 4), (1, 2, 4)))
        self.exactly(woken(alike, 2, begun(alike, 2))[1], ((0, ("join", 0)),))

    def test_a_lone_house_is_over(self):
        self.exactly(woken(ONE, 0, begun(ONE, 0)), (("over", 0, (), (), 0, None, (), None, ()), ()))
        odd = ("asleep", 4, (), (), 3, None, (), None, ())
        self.exactly(woken(ONE, 0, odd), (("over",) + odd[1:], ()))

    def test_all_houses_of_many_webs(self):
        chance = Random(3)
        for web in list(small_webs()) + list(greater_webs()):
            for house in range(web.many):
                self.exactly(woken(web, house, begun(web, house)), slow_woken(web, house, begun(web, house)))
                if web.ties:
                    odd = state_by_chance(chance, web, house, ("asleep",))
                    self.exactly(woken(web, house, odd), slow_woken(web, house, odd))

    def test_a_state_that_never_comes_keeps_what_waking_does_not_touch(self):
        odd = state("asleep", 4, R15, (R, R, R, R), 7, 3, (R12, 1), 4, ((1, OVER), (3, ("yes",))))
        self.exactly(
            woken(HUB, 0, odd),
            (("found", 4, R15, (R, B, R, R)) + odd[4:], ((2, ("join", 0)),)))

    def test_not_asleep(self):
        for stage in ("found", "seeks", "over"):
            self.refused(NotAsleep, woken, HUB, 0, state(stage))
            self.refused(NotAsleep, woken, HUB, 0, (stage,) + begun(HUB, 0)[1:])
        self.refused(NotAsleep, woken, HUB, 1, begun(HUB, 0))
        self.refused(NotAsleep, woken, HUB, 0, begun(HUB, 1))
        self.refused(NotAsleep, woken, HUB, 0, woken(HUB, 0, begun(HUB, 0))[0])

    def test_odd_things(self):
        for thing in odd_things() + [(), list(begun(HUB, 0)), ("asleep",) + state()[1:8]]:
            self.refused(NotAsleep, woken, HUB, 0, thing)
            self.refused(NoHouse, woken, HUB, thing, begun(HUB, 0))
            self.refused(NoHouse, woken, HUB, thing, None)

    def test_no_house_comes_first(self):
        for house in (6, -1, True, "0"):
            self.refused(NoHouse, woken, HUB, house, state("over"))


class Joins(Hearing):
    def test_of_a_lower_level_is_taken_in(self):
        for sender, marks in ((3, (B, B, B, R)), (1, (B, B, P, R))):
            self.hears(
                state(), sender, ("join", 2), state(marks=marks), (sender, ("begin", 3, R2, 0)))
            self.hears(
                state("seeks", count=2, asked=3), sender, ("join", 0),
                state("seeks", count=3, asked=3, marks=marks), (sender, ("begin", 3, R2, 1)))

    def test_of_its_own_level_or_a_greater_one_waits_on_a_plain_tie(self):
        for level in (3, 4, 9):
            self.hears(state(), 3, ("join", level), state(waits=((3, ("join", level)),)))

    def test_it_is_put_behind_those_that_wait(self):
        ahead = ((3, ("ask", 4, R1)), (1, ("ask", 5, R1)))
        self.hears(state(waits=ahead), 3, ("join", 3), state(waits=ahead + ((3, ("join", 3)),)))

    def test_nothing_is_gone_through_behind_a_word_that_waits(self):
        ready = ((3, ("ask", 1, R1)),)
        self.hears(state(waits=ready), 3, ("join", 3), state(waits=ready + ((3, ("join", 3)),)))

    def test_over_a_branch_tie_makes_a_new_core(self):
        for level in (3, 4, 9):
            for stage in ("found", "seeks"):
                self.hears(state(stage), 1, ("join", level), state(stage), (1, ("begin", 4, R1, 1)))

    def test_a_level_is_9_at_most(self):
        self.hears(state(level=8), 1, ("join", 8), state(level=8), (1, ("begin", 9, R1, 1)))
        self.hears(state(level=9), 1, ("join", 9), state(level=9), (1, ("begin", 9, R1, 1)))

    def test_over_a_refused_tie_is_none(self):
        for level in (0, 3, 9):
            self.none(state(), 4, ("join", level))
            self.none(state("seeks"), 4, ("join", level))

    def test_one_that_waited_on_a_tie_refused_since_is_taken_out(self):
        ahead = state("seeks", asked=1, marks=(B, B, R, R), waits=((3, ("join", 5)), (2, ("ask", 9, R1))))
        self.hears(
            ahead, 1, ("no",),
            state("found", asked=None, marks=(B, B, R, R), waits=((2, ("ask", 9, R1)),)))

    def test_a_core_that_is_nothing_is_sent_as_it_is(self):
        self.hears(
            state(core=()), 3, ("join", 0), state(core=(), marks=(B, B, B, R)), (3, ("begin", 3, (), 0)))


class Sleepers(Hearing):
    def test_the_example(self):
        self.exactly(
            heard(THREE, 1, begun(THREE, 1), 0, ("join", 0)),
            (("found", 0, (), (B, P), 0, None, (), None, ()), ((0, ("join", 0)), (0, ("begin", 1, (5, 0, 1), 1)))))

    def test_a_join_over_another_tie_waits(self):
        self.hears(
            begun(HUB, 0), 3, ("join", 0),
            ("found", 0, (), (P, B, P, P), 0, None, (), None, ((3, ("join", 0)),)), (2, ("join", 0)))

    def test_an_ask_waits_or_is_answered_behind_the_join(self):
        woken_hub = ("found", 0, (), (P, B, P, P), 0, None, (), None)
        self.hears(
            begun(HUB, 0), 3, ("ask", 1, R1), woken_hub + (((3, ("ask", 1, R1)),),), (2, ("join", 0)))
        self.hears(
            begun(HUB, 0), 2, ("ask", 0, R1), woken_hub + ((),), (2, ("join", 0)), (2, ("yes",)))

    def test_words_that_are_none(self):
        for word in (("begin", 1, R1, 1), ("report", ()), ("turn",), OVER, ("yes",), ("no",)):
            for sender in (1, 2, 3, 4):
                self.none(begun(HUB, 0), sender, word)
        odd = state("asleep", marks=(B, B, B, B), best=(R1, 1), asked=1)
        for word in (("report", R1), ("turn",), OVER):
            self.none(odd, 1, word)

    def test_it_is_asked_ahead_of_waking_whether_a_word_is_none(self):
        self.none(state("asleep", marks=(P, R, P, P)), 2, ("join", 0))

    def test_odd_sleepers_hear_begin_yes_and_no_asleep(self):
        odd = state("asleep", 0, (), (B, P, R, R), asked=2)
        self.hears(
            odd, 1, ("begin", 2, R15, 0), state("found", 2, R15, (B, P, R, R), 0, 1, (), None))
        self.hears(odd, 2, ("yes",), state("asleep", 0, (), (B, P, R, R), best=(R2, 2)))
        self.hears(odd, 2, ("no",), state("asleep", 0, (), (B, R, R, R)))


class Begins(Hearing):
    def test_found_is_sent_on_and_no_more(self):
        ahead = state("seeks", 1, R1, (B, B, P, B), 2, 2, (R3, 3), 3)
        self.hears(
            ahead, 1, ("begin", 4, R12, 0), state("found", 4, R12, (B, B, P, B), 0, 1),
            (2, ("begin", 4, R12, 0)), (4, ("begin", 4, R12, 0)))

    def test_seeks_counts_its_other_branches_and_asks_over_its_lightest_plain_tie(self):
        self.hears(
            state("found", 1, R1, (P, P, B, P)), 3, ("begin", 2, R15, 1),
            state("seeks", 2, R15, (P, P, B, P), 0, 3, asked=2), (2, ("ask", 2, R15)))
        self.hears(
            state("found", 1, R1, (P, B, B, P)), 3, ("begin", 2, R15, 1),
            state("seeks", 2, R15, (P, B, B, P), 1, 3, asked=4),
            (2, ("begin", 2, R15, 1)), (4, ("ask", 2, R15)))
        self.hears(
            state("found", 1, R1, (P, B, B, R)), 2, ("begin", 2, R15, 1),
            state("seeks", 2, R15, (P, B, B, R), 1, 2, asked=1),
            (3, ("begin", 2, R15, 1)), (1, ("ask", 2, R15)))

    def test_without_a_plain_tie_it_waits_for_reports(self):
        self.hears(
            state("seeks", 1, R1, (B, B, R, R), 0, 2, (R3, 3), 3), 1, ("begin", 2, R15, 1),
            state("seeks", 2, R15, (B, B, R, R), 1, 1), (2, ("begin", 2, R15, 1)))

    def test_without_a_plain_or_another_branch_tie_it_reports_at_once(self):
        self.hears(
            state("found", 1, R1, (B, R, R, R), best=(R3, 3)), 1, ("begin", 2, R15, 1),
            state("found", 2, R15, (B, R, R, R), 0, 1), (1, ("report", ())))

    def test_a_house_with_one_tie_alone(self):
        alone = ("found", 0, (), (B,), 0, None, (), None, ())
        begin = ("begin", 1, (5, 0, 1), 1)
        self.exactly(
            heard(TWO, 0, alone, 1, begin),
            (("found", 1, (5, 0, 1), (B,), 0, 1, (), None, ()), ((1, ("report", ())),)))

    def test_over_a_tie_that_is_not_branch_is_none(self):
        for sender, finds in product((3, 4), (0, 1)):
            self.none(state(), sender, ("begin", 1, R1, finds))


class Asks(Hearing):
    def test_of_a_greater_level_waits(self):
        for sender, core in product((1, 2, 3, 4), (R2, R1)):
            self.hears(state(), sender, ("ask", 4, core), state(waits=((sender, ("ask", 4, core)),)))

    def test_of_another_core_is_answered_yes(self):
        for sender, level in product((1, 2, 3, 4), (0, 3)):
            self.hears(state(), sender, ("ask", level, R1), state(), (sender, ("yes",)))
            self.hears(
                state("seeks", core=(), asked=sender), sender, ("ask", level, R1),
                state("seeks", core=(), asked=sender), (sender, ("yes",)))

    def test_of_its_own_core_is_answered_no(self):
        self.hears(state(), 3, ("ask", 3, R2), state(marks=(B, B, R, R)), (3, ("no",)))
        self.hears(state(), 3, ("ask", 0, R2), state(marks=(B, B, R, R)), (3, ("no",)))
        self.hears(state(), 1, ("ask", 3, R2), state(), (1, ("no",)))
        self.hears(state(), 4, ("ask", 3, R2), state(), (4, ("no",)))
        self.hears(
            state("seeks", asked=4, marks=(B, B, P, P)), 3, ("ask", 3, R2),
            state("seeks", asked=4, marks=(B, B, R, P)), (3, ("no",)))

    def test_who_asked_the_sender_tries_on_in_the_place_of_an_answer(self):
        self.hears(
            state("seeks", asked=4, marks=(B, B, P, P)), 4, ("ask", 3, R2),
            state("seeks", asked=3, marks=(B, B, P, R)), (3, ("ask", 3, R2)))
        self.hears(
            state("seeks", asked=3, count=1, back=1), 3, ("ask", 3, R2),
            state("seeks", asked=None, count=1, back=1, marks=(B, B, R, R)))
        self.hears(
            state("seeks", asked=3, back=1, best=(R15, 2)), 3, ("ask", 3, R2),
            state("found", asked=None, back=1, best=(R15, 2), marks=(B, B, R, R)), (1, ("report", R15)))


class Answers(Hearing):
    def test_yes_is_reported_if_nothing_is_to_come(self):
        self.hears(
            state("seeks", back=1, asked=3), 3, ("yes",),
            state("found", back=1, best=(R3, 3)), (1, ("report", R3)))
        self.hears(
            state("seeks", back=1, asked=3, count=1), 3, ("yes",),
            state("seeks", back=1, best=(R3, 3), count=1))
        self.hears(state("seeks", asked=3), 3, ("yes",), state("found", best=(R3, 3)))

    def test_yes_is_best_if_lighter(self):
        self.hears(
            state("seeks", back=1, asked=3, best=(R1, 2)), 3, ("yes",),
            state("found", back=1, best=(R3, 3)), (1, ("report", R3)))
        self.hears(
            state("seeks", back=1, asked=3, best=(R15, 2)), 3, ("yes",),
            state("found", back=1, best=(R15, 2)), (1, ("report", R15)))
        self.hears(
            state("seeks", back=1, asked=3, best=(R3, 2)), 3, ("yes",),
            state("found", back=1, best=(R3, 2)), (1, ("report", R3)))

    def test_yes_in_stage_found_is_kept_without_a_report(self):
        self.hears(state(back=1, asked=4), 4, ("yes",), state(back=1, best=(R4, 4)))

    def test_no_refuses_a_plain_tie_and_tries_the_next(self):
        self.hears(
            state("seeks", asked=4, marks=(P, B, P, P)), 4, ("no",),
            state("seeks", asked=3, marks=(P, B, P, R)), (3, ("ask", 3, R2)))
        self.hears(
            state("seeks", asked=2, marks=(P, B, P, P)), 2, ("no",),
            state("seeks", asked=4, marks=(P, B, P, P)), (4, ("ask", 3, R2)))
        self.hears(
            state("seeks", asked=3, back=2), 3, ("no",),
            state("found", back=2, marks=(B, B, R, R)), (2, ("report", ())))
        self.hears(
            state("seeks", asked=3, back=2, count=2), 3, ("no",),
            state("seeks", back=2, count=2, marks=(B, B, R, R)))

    def test_of_another_one_than_was_asked_they_are_none(self):
        for word in (("yes",), ("no",)):
            for asked in (None, 1, 2, 4):
                self.none(state("seeks", asked=asked), 3, word)


class Reports(Hearing):
    def test_from_another_one_than_back(self):
        self.hears(
            state("seeks", count=2, back=1), 2, ("report", R12),
            state("seeks", count=1, back=1, best=(R12, 2)))
        self.hears(
            state("seeks", count=1, back=1), 2, ("report", R12),
            state("found", count=0, back=1, best=(R12, 2)), (1, ("report", R12)))
        self.hears(
            state("seeks", count=1, back=1, asked=3), 2, ("report", R12),
            state("seeks", count=0, back=1, asked=3, best=(R12, 2)))
        self.hears(
            state("seeks", count=1, back=1), 2, ("report", ()),
            state("found", count=0, back=1), (1, ("report", ())))

    def test_best_is_the_lighter_one(self):
        for best, found, behind in (
                ((R3, 3), R12, (R3, 3)), ((R12, 1), R3, (R3, 2)), ((R3, 3), R3, (R3, 3)), ((R3, 3), (), (R3, 3))):
            self.hears(
                state("seeks", count=2, best=best), 2, ("report", found),
                state("seeks", count=1, best=behind))

    def test_a_count_is_not_below_0(self):
        self.hears(
            state("seeks", back=1, asked=3), 2, ("report", ()), state("seeks", back=1, asked=3))
        self.hears(state(back=1), 2, ("report", R3), state(back=1, best=(R3, 2)))

    def test_to_nobody_without_back(self):
        self.hears(state("seeks", count=1), 2, ("report", R3), state("found", best=(R3, 2)))

    def test_from_back_waits_while_it_seeks(self):
        for found in ((), R3):
            self.hears(
                state("seeks", count=1, back=1), 1, ("report", found),
                state("seeks", count=1, back=1, waits=((1, ("report", found)),)))

    def test_from_back_the_core_turns_if_its_own_half_knows_the_lighter_one(self):
        for found in ((), R1, R12):
            self.hears(
                state(back=1, best=(R3, 2)), 1, ("report", found),
                state(back=1, best=(R3, 2)), (2, ("turn",)))
            self.hears(
                state(back=1, best=(R3, 3)), 1, ("report", found),
                state(back=1, best=(R3, 3), marks=(B, B, B, R)), (3, ("join", 3)))

    def test_from_back_nothing_if_the_other_half_does(self):
        for best, found in (((R3, 2), R2), ((R3, 2), R3), ((), R3)):
            self.hears(state(back=1, best=best), 1, ("report", found), state(back=1, best=best))

    def test_from_back_all_is_over_if_nobody_knows_of_any(self):
        self.hears(
            state(back=1, marks=(B, B, B, R)), 1, ("report", ()),
            state("over", back=1, marks=(B, B, B, R)), (2, OVER), (3, OVER))
        self.hears(state(back=1, marks=(B, R, R, R)), 1, ("report", ()), state("over", back=1, marks=(B, R, R, R)))

    def test_over_a_tie_that_is_not_branch_is_none(self):
        for sender, found in product((3, 4), ((), R3)):
            self.none(state("seeks", count=1), sender, ("report", found))
            self.none(state(back=3), sender, ("report", found))


class Turns(Hearing):
    def test_over_a_branch_tie_it_goes_on(self):
        self.hears(state(best=(R12, 2)), 1, ("turn",), state(best=(R12, 2)), (2, ("turn",)))
        self.hears(state(best=(R12, 1)), 1, ("turn",), state(best=(R12, 1)), (1, ("turn",)))

    def test_over_another_tie_it_joins(self):
        self.hears(
            state(best=(R3, 3)), 1, ("turn",), state(best=(R3, 3), marks=(B, B, B, R)), (3, ("join", 3)))
        self.hears(
            state(best=(R4, 4), level=0), 1, ("turn",), state(best=(R4, 4), level=0, marks=(B, B, P, B)),
            (4, ("join", 0)))

    def test_words_that_are_none(self):
        self.none(state(), 1, ("turn",))
        for sender in (3, 4):
            self.none(state(best=(R3, 3)), sender, ("turn",))

    def test_one_that_waited_where_best_is_nothing_is_let_go_of(self):
        self.hears(
            state(waits=((1, ("turn",)), (3, ("ask", 4, R1)), (2, ("turn",)))), 3, ("ask", 0, R1),
            state(waits=((3, ("ask", 4, R1)),)), (3, ("yes",)))


class Overs(Hearing):
    def test_it_is_told_over_all_other_branch_ties(self):
        for stage in ("found", "seeks"):
            self.hears(
                state(stage, marks=(B, B, P, B), back=2), 2, OVER,
                state("over", marks=(B, B, P, B), back=2), (1, OVER), (4, OVER))
        self.hears(state(marks=(R, B, P, R)), 2, OVER, state("over", marks=(R, B, P, R)))

    def test_all_that_waits_is_let_go_of(self):
        waits = ((3, ("ask", 0, R1)), (3, ("join", 9)))
        self.hears(state(waits=waits), 1, OVER, state("over"), (2, OVER))
        self.hears(state(back=1, waits=waits), 1, ("report", ()), state("over", back=1), (2, OVER))

    def test_over_a_tie_that_is_not_branch_is_none(self):
        for sender in (3, 4):
            self.none(state(), sender, OVER)

    def test_a_house_that_is_over_hears_nothing(self):
        ended = state("over", marks=(B, B, B, B), best=(R1, 1), asked=1, level=9)
        for word in (
                ("join", 0), ("begin", 1, R1, 0), ("ask", 0, R1), ("yes",), ("no",), ("report", ()),
                ("turn",), OVER):
            self.none(ended, 1, word)


class Waiting(Hearing):
    def test_a_begin_lets_waiting_asks_and_joins_be_done_in_order(self):
        waits = ((3, ("ask", 5, R1)), (4, ("join", 3)), (3, ("ask", 4, R12)), (4, ("ask", 4, R15)))
        self.hears(
            state("found", marks=(B, R, P, P), waits=waits), 1, ("begin", 4, R15, 0),
            state("found", 4, R15, (B, R, P, B), 0, 1, waits=((3, ("ask", 5, R1)),)),
            (4, ("begin", 4, R15, 0)), (3, ("yes",)), (4, ("no",)))

    def test_they_are_gone_through_from_the_first_one_behind_each_that_was_done(self):
        # The join of house 4 makes its tie branch, so the join ahead of it, too, is done then.
        waits = ((4, ("join", 3)), (3, ("ask", 3, R12)), (4, ("join", 2)), (3, ("ask", 4, R12)))
        self.hears(
            state(marks=(B, R, P, P), waits=waits), 1, ("join", 9),
            state(marks=(B, R, P, B), waits=((3, ("ask", 4, R12)),)),
            (1, ("begin", 4, R1, 1)), (3, ("yes",)), (4, ("begin", 3, R2, 0)), (4, ("begin", 4, R4, 1)))

    def test_a_report_from_back_is_done_when_it_seeks_no_more(self):
        self.hears(
            state("seeks", back=1, asked=3, waits=((1, ("report", R1)),)), 3, ("yes",),
            state("found", back=1, best=(R3, 3), marks=(B, B, B, R)),
            (1, ("report", R3)), (3, ("join", 3)))
        self.hears(
            state("seeks", back=1, asked=3, waits=((1, ("report", ())),)), 3, ("no",),
            state("over", back=1, marks=(B, B, R, R)), (1, ("report", ())), (2, OVER))

    def test_a_house_that_is_over_by_a_waiting_word_does_none_behind_it(self):
        waits = ((3, ("ask", 9, R1)), (1, ("report", ())), (3, ("ask", 0, R1)))
        self.hears(
            state("seeks", back=1, asked=3, waits=waits), 3, ("no",),
            state("over", back=1, marks=(B, B, R, R)),
            (1, ("report", ())), (2, OVER))

    def test_whether_a_word_is_none_is_asked_when_it_comes_alone(self):
        # A begin over a plain tie, a yes of nobody that was asked: none if they came, done if they wait.
        self.hears(
            state(waits=((3, ("begin", 5, R1, 0)), (4, ("yes",)))), 2, ("ask", 0, R12),
            state(level=5, core=R1, back=3, best=(R4, 4)),
            (2, ("yes",)), (1, ("begin", 5, R1, 0)), (2, ("begin", 5, R1, 0)))


class Refusals(unittest.TestCase, Exactly):
    def test_odd_houses_and_senders(self):
        for thing in odd_things() + [6, (0,), True, "0"]:
            self.refused(NoHouse, heard, HUB, thing, state(), 1, OVER)
            self.refused(NoHouse, heard, HUB, 0, state(), thing, OVER)

    def test_odd_words(self):
        for thing in odd_things() + [(), ["over"], ("join", True), ("join", 10), ("ask", 1, ()), ("over", 0)]:
            for sender in (0, 1, 5):
                self.refused(NoWord, heard, HUB, 0, state(), sender, thing)

    def test_the_order(self):
        for odd in (None, True, 6, [0]):
            self.refused(NoHouse, heard, HUB, odd, state(), odd, None)
            self.refused(NoHouse, heard, HUB, 0, state(), odd, None)
            self.refused(NoHouse, heard, HUB, odd, state("over"), 1, OVER)

    def test_of_no_neighbour(self):
        for sender in (0, 5):
            for word in (("join", 0), ("ask", 0, R1), OVER):
                self.refused(NoWord, heard, HUB, 0, state(), sender, word)
        self.refused(NoWord, heard, ONE, 0, begun(ONE, 0), 0, ("join", 0))


class ByChance(unittest.TestCase, Exactly):
    def test_many_states_and_words_against_a_slow_reckoning(self):
        chance = Random(5)
        webs = [web for web in small_webs() if web.many > 1][::5] + list(greater_webs()) + [HUB] * 30
        done = {sort: [0, 0] for sort in SORTS}
        for web in webs:
            for _ in range(60):
                house = chance.randrange(web.many)
                ahead, word = state_by_chance(chance, web, house), word_by_chance(chance, web)
                sender = chance.choice(near(web, house))
                wanted = slow_heard(web, house, ahead, sender, word)
                done[word[0]][wanted is None] += 1
                if wanted is None:
                    self.refused(NoWord, heard, web, house, ahead, sender, word)
                else:
                    self.exactly(heard(web, house, ahead, sender, word), wanted)
                    self.exactly(heard(web, house, ahead, sender, word), wanted)
        # Each sort was heard and refused often.
        self.assertGreater(min(min(pair) for pair in done.values()), 100, done)

    def test_all_that_waits_is_gone_through_in_long_queues(self):
        chance = Random(6)
        for _ in range(300):
            house = chance.randrange(6)
            ahead = state_by_chance(chance, HUB, house)
            others = near(HUB, house)
            waits = tuple((chance.choice(others), word_by_chance(chance, HUB)) for _ in range(12))
            ahead = ahead[:8] + (waits,)
            for sender in others:
                for word in (("ask", 0, R12), ("join", 1), ("begin", 3, R12, 1), ("yes",), OVER):
                    wanted = slow_heard(HUB, house, ahead, sender, word)
                    if wanted is not None:
                        self.exactly(heard(HUB, house, ahead, sender, word), wanted)


if __name__ == "__main__":
    unittest.main()
