"""Posts: whole runs by letters, what is told, letters that are none, pasts there and back, errors."""

import unittest
from random import Random

from leastroads.errors import NoDeed, NoHouse, NoPast
from leastroads.posts import Post, post_of
from leastroads.rows import row_of, sealed, unsealed
from leastroads.webs import Web
from tests.mail import Mail, is_done, mail_webs, ways_of
from tests.orders import full_web, row_web
from tests.slow_posts import SlowPost, slow_is_past
from tests.slow_states import near, word_by_chance
from tests.things import Exactly, odd_things

THREE = Web(3, ((0, 1, 5), (0, 2, 7), (1, 2, 6)))
ONE = Web(1, ())
TWO = row_web([5])
LIMIT = 2 ** 32
JOIN = ("join", 0)
ASLEEP = ("asleep", 0, (), ("plain", "plain"), 0, None, (), None, ())
FOUND = ("found", 0, (), ("branch", "plain"), 0, None, (), None, ())


def mail_of(case, web, seed):
    houses = range(web.many)
    return Mail(case, web, [Post(web, number) for number in houses], [SlowPost(web, number) for number in houses], seed)


def letter(sender, to, taken, *items):
    return sealed(("letter", sender, to, taken, items))


def hear(post, row):
    return post.deed(("hear", row))


class WholeRuns(unittest.TestCase, Exactly):
    def test_letters_late_often_and_out_of_order(self):
        for seed, web in enumerate(mail_webs()):
            mail = mail_of(self, web, seed)
            told = set()
            for step in range(60 * web.many + 200 * len(web.ties)):
                told.add(mail.step())
                if step % 7 == 0:
                    mail.check_letters(step % web.many)
                if mail.is_over():
                    break
            self.end(mail, told)

    def end(self, mail, told):
        """Whatever was lost, the waiting words are told again until all is over."""
        many = 0
        while not mail.is_over():
            for number in mail.asleep():
                mail.wake(number)
            mail.bag.clear()
            for one, other in ways_of(mail.web):
                mail.write(one, other)
                told.add(mail.bring(0, False))
            many += 1
            self.assertLess(many, 1000)
        self.assertTrue(is_done(mail.web, [post.state() for post in mail.posts]))
        # The houses heard each letter as one of these three, or as none.
        self.assertLessEqual(told, {None, "new", "old", "none"})
        if mail.web.many > 1:
            self.assertIn("new", told)
        for number in range(mail.web.many):
            mail.check_letters(number)

    def test_one_house(self):
        post = Post(ONE, 0)
        self.exactly(post.past(), (("asleep", 0, (), (), 0, None, (), None, ()), (), ()))
        self.exactly(post.deed(("wake",)), None)
        self.exactly(post.past(), (("over", 0, (), (), 0, None, (), None, ()), (), ()))
        self.exactly(hear(post, letter(0, 0, 0)), "none")
        self.refused(NoHouse, post.letter, 0)

    def test_two_houses_by_hand(self):
        one, other = Post(TWO, 0), Post(TWO, 1)
        self.exactly(one.deed(("wake",)), None)
        state = ("found", 0, (), ("branch",), 0, None, (), None, ())
        self.exactly(one.past(), (state, ((0, (JOIN,)),), ((0, ()),)))
        self.exactly(unsealed(one.letter(1)), (("letter", 0, 1, 0, ((0, JOIN),)),))
        begin = ("begin", 1, (5, 0, 1), 1)
        self.exactly(hear(other, one.letter(1)), "new")
        self.exactly(other.past(), (state, ((0, (JOIN, begin)),), ((1, ()),)))
        self.exactly(hear(other, one.letter(1)), "old")
        self.exactly(unsealed(other.letter(0)), (("letter", 1, 0, 1, ((0, JOIN), (1, begin))),))
        self.exactly(hear(one, other.letter(0)), "new")
        # Two houses of level 1 with this core, and no other tie: each has told its report.
        state = ("found", 1, (5, 0, 1), ("branch",), 0, 1, (), None, ())
        self.exactly(one.past(), (state, ((1, (begin, ("report", ()))),), ((2, ()),)))
        self.exactly(hear(other, one.letter(1)), "new")
        self.exactly(hear(one, other.letter(0)), "new")
        self.exactly([one.state()[0], other.state()[0]], ["over", "over"])

    def test_words_are_put_in_the_order_in_which_they_are_sent(self):
        # A house that wakes by a join over its lightest tie sends a join and a begin over it.
        post = Post(THREE, 1)
        self.exactly(hear(post, letter(0, 1, 0, (0, JOIN))), "new")
        words = (JOIN, ("begin", 1, (5, 0, 1), 1))
        self.exactly(post.past()[1], ((0, words), (0, ())))

    def test_copies_go_on_apart(self):
        chance = Random(2)
        for seed, web in enumerate(mail_webs()[1::3]):
            mail = mail_of(self, web, seed)
            for _ in range(150):
                mail.step()
                if chance.random() < 0.1:
                    number = chance.randrange(web.many)
                    ahead = mail.posts[number].past()
                    twin = mail.posts[number].copy()
                    self.assertIs(type(twin), Post)
                    self.exactly(twin.past(), ahead)
                    other = Mail(self, web, list(mail.posts), list(mail.slows), seed)
                    other.posts[number], other.slows[number] = twin, mail.slows[number].copy()
                    for to, row in mail.bag:
                        if to == number:
                            other.bag.append((to, row))
                    while other.bag:
                        other.bring(0, False)
                    self.exactly(mail.posts[number].past(), ahead)

    def test_the_copied_goes_on_apart_too(self):
        post = Post(THREE, 0)
        twin = post.copy()
        post.deed(("wake",))
        self.exactly(twin.past(), (ASLEEP, ((0, ()), (0, ())), ((0, ()), (0, ()))))
        self.exactly(hear(post, letter(1, 0, 1, (1, JOIN))), "new")
        self.exactly(twin.deed(("wake",)), None)
        self.exactly(twin.past(), (FOUND, ((0, (JOIN,)), (0, ())), ((0, ()), (0, ()))))

    def test_a_post_is_equal_to_nothing_else(self):
        for thing in odd_things() + [Post(TWO, 0).past(), 0]:
            self.assertFalse(Post(TWO, 0) == thing)


class WhatIsTold(unittest.TestCase, Exactly):
    def test_new_if_something_is_known_alone(self):
        post = Post(THREE, 0)
        post.deed(("wake",))
        self.exactly(hear(post, letter(1, 0, 0)), "old")
        self.exactly(hear(post, letter(1, 0, 1)), "new")
        self.exactly(post.past(), (FOUND, ((1, ()), (0, ())), ((0, ()), (0, ()))))
        self.exactly(hear(post, letter(1, 0, 1)), "old")
        self.exactly(hear(post, letter(1, 0, 0)), "old")

    def test_new_if_something_is_held_alone(self):
        post = Post(THREE, 0)
        self.exactly(hear(post, letter(1, 0, 0, (3, JOIN), (1, ("yes",)))), "new")
        held = ((1, ("yes",)), (3, JOIN))
        self.exactly(post.past(), (ASLEEP, ((0, ()), (0, ())), ((0, held), (0, ()))))
        self.exactly(hear(post, letter(1, 0, 0, (3, ("over",)), (1, ("no",)))), "old")
        self.exactly(hear(post, letter(1, 0, 0, (1000, JOIN), (1001, JOIN), (LIMIT - 1, JOIN))), "old")
        self.exactly(hear(post, letter(1, 0, 0, (999, JOIN))), "new")
        self.exactly(post.past()[2], ((0, held + ((999, JOIN),)), (0, ())))

    def test_the_items_are_heard_one_behind_the_other(self):
        # The window moves on with what is taken: 1000 is held behind 0.
        post = Post(TWO, 0)
        self.exactly(hear(post, letter(1, 0, 0, (1000, JOIN), (0, JOIN), (1000, ("no",)))), "new")
        self.exactly(post.past()[2], ((1, ((1000, ("no",)),)),))

    def test_out_of_order_within_a_letter(self):
        post, slow = Post(TWO, 0), SlowPost(TWO, 0)
        row = letter(1, 0, 0, (1, ("begin", 1, (5, 0, 1), 1)), (0, JOIN))
        self.exactly(hear(post, row), hear(slow, row))
        self.exactly(post.past(), slow.past())
        self.exactly(post.past()[2], ((2, ()),))

    def test_no_items_no_change(self):
        for web in mail_webs()[:8]:
            for one, other in ways_of(web):
                post = Post(web, one)
                self.exactly(hear(post, letter(other, one, 0)), "old")
                self.exactly(post.past(), SlowPost(web, one).past())

    def test_what_is_passed_is_not_changed(self):
        row = letter(1, 0, 0, (0, JOIN))
        deed = ("hear", row)
        Post(TWO, 0).deed(deed)
        self.exactly(deed, ("hear", letter(1, 0, 0, (0, JOIN))))


class NoLetter(unittest.TestCase, Exactly):
    """Rows that make "none", nothing being changed."""

    def none(self, post, row):
        ahead = post.past()
        self.exactly(hear(post, row), "none")
        self.exactly(post.past(), ahead)

    def woken(self):
        post = Post(THREE, 0)
        post.deed(("wake",))
        return post

    def test_a_right_one_to_begin_with(self):
        self.exactly(hear(self.woken(), letter(1, 0, 1, (0, JOIN), (7, ("report", ())))), "new")

    def test_rows_that_are_sealed_of_nothing(self):
        row = letter(1, 0, 1, (0, JOIN))
        post = self.woken()
        for at in range(len(row)):
            self.none(post, row[:at] + ((row[at] + 1) % 256,) + row[at + 1:])
            self.none(post, row[:at])
        for other in ((), (0,), row[:-4], row + (0,), row + row, row_of(("letter", 1, 0, 1, ()))):
            self.none(post, other)

    def test_parcels_that_are_no_letters(self):
        post = self.woken()
        for parcel in [
                None, True, 0, "letter", (), ("letter",), ("letter", 1, 0, 1), ("letter", 1, 0, 1, (), ()),
                (1, 0, 1, ()),
                ("Letter", 1, 0, 1, ()), (("letter",), 1, 0, 1, ()), (None, 1, 0, 1, ()), ("hear", 1, 0, 1, ()),
                ("deed", ("wake",)), ("letter", 1, 0, (), 1)]:
            self.none(post, sealed(parcel))

    def test_who_it_is_from_and_to(self):
        post = self.woken()
        for sender in (0, 3, 10, -1, True, False, None, "1", (1,), LIMIT):
            self.none(post, letter(sender, 0, 0))
        for to in (1, 2, 3, -1, True, False, None, "0", (0,), LIMIT):
            self.none(post, letter(1, to, 0))
        row = Post(row_web([1, 2]), 0)
        self.none(row, letter(2, 0, 0))
        self.exactly(hear(row, letter(1, 0, 0)), "old")

    def test_how_many_are_told_to_be_taken(self):
        for taken in (2, 3, LIMIT, -1, True, False, None, "1", (), (1,)):
            self.none(self.woken(), letter(1, 0, taken))
            self.none(self.woken(), letter(1, 0, taken, (0, JOIN)))
        # Nothing was put for house 2.
        self.none(self.woken(), letter(2, 0, 1))
        # What is sent by this very letter's words was not put ahead.
        self.none(Post(THREE, 1), letter(0, 1, 1, (0, JOIN)))

    def test_items(self):
        item = (0, JOIN)
        for items in (
                None, True, 0, "items", (None,), ((),), ((0,),), ((0, JOIN, 0),), (0, JOIN), (item, None), (item, (1,)),
                ((-1, JOIN),), ((True, JOIN),), ((False, JOIN),), ((None, JOIN),), (("0", JOIN),), (((0,), JOIN),),
                ((LIMIT, JOIN),), (item, (LIMIT, JOIN)), ((10 ** 20, JOIN),)):
            self.none(self.woken(), sealed(("letter", 1, 0, 0, items)))

    def test_words(self):
        for word in (
                None, True, "join", (), ("join",), ("join", 10), ("join", True), ("join", -1), ("Join", 0),
                ("join", 0, 0),
                ("begin", 1, (5, 0, 1), 2), ("begin", 1, (5, 0, 1), True), ("begin", 1, (), 1),
                ("begin", 1, (4, 0, 1), 1),
                ("ask", 1, (5, 1, 0)), ("ask", 1), ("ask", 1, None), ("yes", 1), ("report",), ("report", None),
                ("report", (5, False, 1)), ("over", 0), ("turn", ()), ("wake",), (("join", 0),)):
            self.none(self.woken(), letter(1, 0, 0, (0, word)))
            self.none(self.woken(), letter(1, 0, 0, (5, word)))
            self.none(self.woken(), letter(1, 0, 1, (0, JOIN), (1, word)))

    def test_at_most_twenty_items(self):
        many = tuple((number, ("report", ())) for number in range(1, 30))
        self.exactly(hear(self.woken(), letter(1, 0, 0, *many[:20])), "new")
        self.none(self.woken(), letter(1, 0, 0, *many[:21]))
        self.none(self.woken(), letter(1, 0, 0, *((1, JOIN),) * 21))
        self.exactly(hear(self.woken(), letter(1, 0, 0, *((1, JOIN),) * 20)), "new")

    def test_the_greatest_number(self):
        self.exactly(hear(self.woken(), letter(1, 0, 0, (LIMIT - 1, JOIN))), "old")

    def test_words_that_are_none_then(self):
        for word in (
                ("begin", 1, (5, 0, 1), 1), ("yes",), ("no",), ("report", ()), ("turn",), ("over",)):
            # From house 2, over a plain tie, nothing being asked of it.
            self.none(self.woken(), letter(2, 0, 0, (0, word)))
            self.none(self.woken(), letter(2, 0, 0, (0, ("ask", 0, (5, 0, 1))), (1, word)))
            self.none(self.woken(), letter(2, 0, 0, (1, word), (0, ("ask", 0, (5, 0, 1)))))
        # What would be known is not known either.
        self.none(self.woken(), letter(1, 0, 1, (0, ("turn",))))
        self.none(self.woken(), letter(1, 0, 1, (0, JOIN), (1, ("yes",))))

    def test_a_word_that_is_none_then_may_be_held(self):
        post = self.woken()
        self.exactly(hear(post, letter(1, 0, 0, (1, ("turn",)))), "new")
        self.none(post, letter(1, 0, 1, (0, JOIN)))
        self.exactly(post.past(), (FOUND, ((0, (JOIN,)), (0, ())), ((0, ((1, ("turn",)),)), (0, ()))))

    def test_a_house_that_becomes_over_amid_them_hears_no_more(self):
        state = ("found", 1, (5, 0, 1), ("branch", "plain"), 0, 1, (), None, ())
        post = post_of(THREE, 0, (state, ((0, (JOIN,)), (0, ())), ((0, ()), (0, ()))))
        self.none(post, letter(1, 0, 1, (0, ("over",)), (1, JOIN)))
        self.none(post, letter(1, 0, 1, (1, ("over",)), (0, ("over",))))
        self.exactly(hear(post.copy(), letter(1, 0, 1, (0, ("over",)), (2, JOIN))), "new")
        self.exactly(hear(post, letter(1, 0, 1, (0, ("over",)))), "new")
        self.none(post, letter(2, 0, 0, (0, JOIN)))
        self.exactly(hear(post, letter(1, 0, 1, (0, JOIN))), "old")
        self.exactly(hear(post, letter(1, 0, 1, (2, JOIN))), "new")

    def test_made_up_letters_by_chance(self):
        chance = Random(7)
        for web in mail_webs()[2::4]:
            for _ in range(60):
                number = chance.randrange(web.many)
                post, slow = Post(web, number), SlowPost(web, number)
                for _ in range(8):
                    other = chance.choice(near(web, number))
                    items = [(chance.randrange(5), word_by_chance(chance, web)) for _ in range(chance.randrange(4))]
                    taken = chance.randrange(3)
                    row = letter(other, number, taken, *items)
                    self.exactly(hear(post, row), hear(slow, row))
                    self.exactly(post.past(), slow.past())


class Letters(unittest.TestCase, Exactly):
    def test_the_first_twenty_that_wait(self):
        words = tuple(("join", number % 10) for number in range(50))
        for known in (0, 7, LIMIT - 60):
            for many in (0, 1, 19, 20, 21, 50):
                outs = ((known, words[:many]), (3, ()))
                post = post_of(THREE, 0, (FOUND, outs, ((4, ((6, JOIN),)), (9, ()))))
                items = tuple((known + at, word) for at, word in enumerate(words[:many][:20]))
                self.exactly(post.letter(1), sealed(("letter", 0, 1, 4, items)))
                self.exactly(post.letter(2), sealed(("letter", 0, 2, 9, ())))
                self.exactly(post.past()[1], outs)

    def test_more_than_twenty_are_told_letter_by_letter(self):
        words = tuple(("ask", 0, (5, 0, 1)) for _ in range(50))
        state = ("found", 1, (7, 0, 2), ("plain", "plain"), 0, None, (), None, ())
        one = post_of(THREE, 0, (state, ((0, words), (0, ())), ((0, ()), (0, ()))))
        other = Post(THREE, 1)
        for taken, told in ((20, "new"), (40, "new"), (50, "new"), (50, "old")):
            self.exactly(hear(other, one.letter(1)), told)
            self.exactly(other.past()[2][0], (taken, ()))
            hear(one, sealed(("letter", 1, 0, taken, ())))
            self.exactly(one.past()[1][0], (taken, words[taken:]))

    def test_no_house(self):
        web = row_web([1, 2])
        post = Post(web, 0)
        for thing in odd_things() + [0, 2, 3, -1, True, "1", (1,), None]:
            self.refused(NoHouse, post.letter, thing)
        self.exactly(post.letter(1), letter(0, 1, 0))


class Deeds(unittest.TestCase, Exactly):
    def test_no_house(self):
        for web in (ONE, TWO, THREE):
            for thing in odd_things() + [web.many, -1, True, False, "0", (0,)]:
                self.refused(NoHouse, Post, web, thing)
            for number in range(web.many):
                self.exactly(Post(web, number).past(), SlowPost(web, number).past())

    def test_no_deed(self):
        row = letter(1, 0, 0, (0, JOIN))
        wrong = odd_things() + [
            "wake", ["wake"], ("wake", 0), ("wake", ()), ("Wake",), (("wake",),), ("hear",), ("hear", row, row),
            ["hear", row], ("hear", list(row)), ("hear", None), ("hear", row + (256,)), ("hear", row + (True,)),
            ("hear", (row,)), ("hear", "row"), ("tell", row), (None, row), ("hear", {0: 1}), ("keep",),
            ("hear", Web(1, ())), (True,), ("hear", -1)]
        for post in (Post(THREE, 0), post_of(THREE, 0, (FOUND, ((0, ()), (5, (JOIN,))), ((0, ()), (1, ((4, JOIN),)))))):
            ahead = post.past()
            for thing in wrong:
                self.refused(NoDeed, post.deed, thing)
                if thing != ():
                    self.refused(NoDeed, post.deed, ("hear", thing))
                    self.refused(NoDeed, post.deed, ("hear", (0, thing)))
                self.exactly(post.past(), ahead)

    def test_a_wake_of_one_that_is_not_asleep(self):
        for stage in ("found", "seeks", "over"):
            post = post_of(TWO, 0, ((stage,) + Post(TWO, 0).state()[1:], ((0, ()),), ((0, ()),)))
            ahead = post.past()
            self.refused(NoDeed, post.deed, ("wake",))
            self.exactly(post.past(), ahead)
        post = Post(ONE, 0)
        post.deed(("wake",))
        self.refused(NoDeed, post.deed, ("wake",))


class Pasts(unittest.TestCase, Exactly):
    def test_there_and_back_and_on(self):
        for seed, web in enumerate(mail_webs()):
            mail = mail_of(self, web, seed)
            for step in range(80):
                mail.step()
                number = step % web.many
                past = mail.posts[number].past()
                twin = post_of(web, number, past)
                self.assertIs(type(twin), Post)
                self.exactly(twin.past(), past)
                self.exactly(twin.state(), past[0])
                # The run goes on with the one that was made of its past.
                mail.posts[number] = twin

    def otherwise(self, past, thing):
        """The past with each part of it, at most three deep, replaced by the thing, or beside it."""
        yield thing
        for at in range(len(past)):
            yield past[:at] + (thing,) + past[at + 1:]
            yield past[:at] + past[at + 1:]
            for place in range(len(past[at])):
                part = past[at]
                yield past[:at] + (part[:place] + (thing,) + part[place + 1:],) + past[at + 1:]
                yield past[:at] + (part[:place] + part[place + 1:],) + past[at + 1:]
                if isinstance(part[place], tuple):
                    for deep in range(len(part[place])):
                        end = part[place][:deep] + (thing,) + part[place][deep + 1:]
                        yield past[:at] + (part[:place] + (end,) + part[place + 1:],) + past[at + 1:]
        yield past + (thing,)
        yield list(past)

    def test_one_part_otherwise(self):
        outs = ((0, (JOIN,)), (7, (("turn",), ("report", (6, 1, 2)))))
        ins = ((3, ((4, JOIN), (9, ("yes",)))), (2, ()))
        past = (FOUND, outs, ins)
        self.exactly(post_of(THREE, 0, past).past(), past)
        kept = 0
        for thing in odd_things() + [0, 5, LIMIT - 1, LIMIT, (JOIN,), ((5, JOIN),), ((3, JOIN),), ("no",), "over",
                ("join", 10)]:
            for other in self.otherwise(past, thing):
                if slow_is_past(THREE, 0, other):
                    self.exactly(post_of(THREE, 0, other).past(), other)
                    kept += 1
                else:
                    self.refused(NoPast, post_of, THREE, 0, other)
        self.assertGreater(kept, 10)

    def test_words_by_their_form(self):
        for word in (("join", 10), ("join", True), ("report", (5, 1, 0)), ("a",), (), ("begin", 1, (), 1), "join"):
            self.refused(NoPast, post_of, TWO, 0, (Post(TWO, 0).state(), ((0, (word,)),), ((0, ()),)))
            self.refused(NoPast, post_of, TWO, 0, (Post(TWO, 0).state(), ((0, ()),), ((0, ((1, word),)),)))

    def test_held_numbers(self):
        state = Post(TWO, 0).state()
        for held in (((1, JOIN),), ((1, JOIN), (2, JOIN)), ((999, JOIN),)):
            post_of(TWO, 0, (state, ((0, ()),), ((0, held),)))
        for held in (((0, JOIN),), ((2, JOIN), (1, JOIN)), ((2, JOIN), (2, JOIN)), ((1000, JOIN),), ((True, JOIN),)):
            self.refused(NoPast, post_of, TWO, 0, (state, ((0, ()),), ((0, held),)))

    def test_as_many_ends_as_neighbours(self):
        state, out, into = Post(TWO, 0).state(), (0, ()), (0, ())
        for outs, ins in (((), (into,)), ((out,), ()), ((out, out), (into,)), ((out,), (into, into)), ((), ())):
            self.refused(NoPast, post_of, TWO, 0, (state, outs, ins))
        self.refused(NoPast, post_of, ONE, 0, (Post(ONE, 0).state(), (out,), (into,)))
        post_of(ONE, 0, (Post(ONE, 0).state(), (), ()))

    def test_of_another_house_or_web(self):
        web = row_web([1, 2])
        self.refused(NoPast, post_of, web, 1, Post(web, 0).past())
        self.refused(NoPast, post_of, web, 0, Post(web, 1).past())
        self.exactly(post_of(web, 2, Post(web, 0).past()).state(), Post(web, 2).state())

    def test_errors_in_their_order(self):
        for thing in odd_things() + [3, True, -1]:
            for past in (None, Post(THREE, 0).past(), thing):
                self.refused(NoHouse, post_of, THREE, thing, past)
        for thing in odd_things():
            self.refused(NoPast, post_of, THREE, 2, thing)

    def test_what_is_passed_stays(self):
        past = (FOUND, ((0, (JOIN,)), (0, ())), ((0, ()), (0, ())))
        post = post_of(THREE, 0, past)
        hear(post, letter(1, 0, 1, (0, JOIN)))
        self.exactly(past, (FOUND, ((0, (JOIN,)), (0, ())), ((0, ()), (0, ()))))
        self.exactly(post_of(THREE, 0, past).past(), past)

    def test_a_count_without_a_limit(self):
        state = FOUND[:4] + (10 ** 4000,) + FOUND[5:]
        past = (state, ((0, ()), (0, ())), ((0, ()), (0, ())))
        self.exactly(post_of(THREE, 0, past).past(), past)


class EqualCalls(unittest.TestCase, Exactly):
    def test_equal_answers(self):
        web = full_web(4, [4, 2, 6, 1, 3, 5])
        ends = []
        for _ in range(2):
            mail = mail_of(self, web, 5)
            for _ in range(200):
                mail.step()
            ends.append([post.past() for post in mail.posts])
        self.exactly(ends[0], ends[1])


if __name__ == "__main__":
    unittest.main()
