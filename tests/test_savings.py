"""Saved houses: what is noted and synced, cuts at each place, journals that are broken, moves, copies, errors."""

import unittest
from random import Random

from leastroads.disks import Disk, kept_parcels
from leastroads.errors import NoDeed, NoDisk, NoHouse, OtherHouse
from leastroads.posts import Post
from leastroads.rows import row_of, sealed, unsealed
from leastroads.savings import SavedHouse
from leastroads.webs import Web
from tests.mail import Mail, is_done, mail_webs, ways_of
from tests.orders import full_web, ring_web, row_web
from tests.slow_posts import SlowSaved, slow_first_block, slow_mark
from tests.slow_states import near
from tests.slow_texts import slow_web_text
from tests.things import Exactly, odd_things

THREE = Web(3, ((0, 1, 5), (0, 2, 7), (1, 2, 6)))
ONE = Web(1, ())
TWO = row_web([5])
JOIN = ("join", 0)
WAKE = ("wake",)


def letter(sender, to, taken, *items):
    return sealed(("letter", sender, to, taken, items))


def disk_of(blocks, synced=None):
    """A disk with these blocks, of which so many do not wait, all but for a number."""
    disk = Disk()
    many = len(blocks) if synced is None else synced
    for block in blocks[:many]:
        disk.write(block)
    disk.sync()
    for block in blocks[many:]:
        disk.write(block)
    return disk


def told(disk):
    return (disk.blocks(), disk.synced())


class SavedMail(Mail):
    """Saved houses over disks beside slow ones; they keep their pasts, and are cut down at any time."""

    def __init__(self, case, web, seed):
        houses = range(web.many)
        self.disks = [Disk() for _ in houses]
        posts = [SavedHouse(web, number, self.disks[number]) for number in houses]
        super().__init__(case, web, posts, [SlowSaved(web, number) for number in houses], seed)
        # For each house its pasts behind the deeds that changed it, and how many of them are let out.
        self.pasts = [[post.past()] for post in posts]
        self.let_out = [1 for _ in houses]
        self.words, self.most_taken = {}, {}

    def check(self, number):
        super().check(number)
        slow = self.slows[number]
        self.case.exactly(told(self.disks[number]), (slow.blocks, slow.synced))
        if self.posts[number].past() != self.pasts[number][-1]:
            self.pasts[number].append(self.posts[number].past())

    def write(self, one, other):
        super().write(one, other)
        self.check(one)
        self.let_out[one] = len(self.pasts[one])
        _, _, _, taken, items = unsealed(self.bag[-1][1])[0]
        # No link tells two things under one number, or takes back what it told to be taken.
        self.case.assertGreaterEqual(taken, self.most_taken.get((one, other), 0))
        self.most_taken[one, other] = taken
        for number, word in items:
            self.case.assertEqual(self.words.setdefault((one, other, number), word), word)

    def keep(self, number):
        self.case.exactly(self.posts[number].keep(), self.slows[number].keep())
        self.let_out[number] = len(self.pasts[number])
        self.check(number)

    def cut(self, number):
        waiting = self.slows[number].waiting()
        kept = tuple(self.chance.choice((len(row), len(row), self.chance.randint(0, len(row)))) for row in waiting)
        self.disks[number].cut(kept)
        self.posts[number] = SavedHouse(self.web, number, self.disks[number])
        self.slows[number] = self.slows[number].cut(kept)
        pasts = self.pasts[number]
        self.case.assertIn(self.posts[number].past(), pasts[self.let_out[number] - 1:])
        del pasts[pasts.index(self.posts[number].past()) + 1:]
        self.let_out[number] = len(pasts)
        self.check(number)

    def step(self):
        kind = self.chance.random()
        number = self.chance.randrange(self.web.many)
        if kind < 0.05:
            return self.keep(number)
        if kind < 0.15:
            return self.cut(number)
        return super().step()


class WholeRuns(unittest.TestCase, Exactly):
    def test_with_cuts_at_any_time(self):
        for seed, web in enumerate(mail_webs()):
            mail = SavedMail(self, web, seed)
            for _ in range(30 * web.many + 25 * len(web.ties)):
                mail.step()
            self.end(mail)

    def end(self, mail):
        many = 0
        while not mail.is_over():
            for number in mail.asleep():
                mail.wake(number)
            mail.bag.clear()
            for one, other in ways_of(mail.web):
                mail.write(one, other)
                mail.bring(0, False)
            many += 1
            self.assertLess(many, 1000)
        self.assertTrue(is_done(mail.web, [post.state() for post in mail.posts]))
        for number in range(mail.web.many):
            mail.cut(number)

    def cuts(self, waiting):
        """All kept, or none, or the first ones whole, one cut amid, and those behind it whole or gone."""
        whole = [len(row) for row in waiting]
        yield tuple(whole)
        for at, row in enumerate(waiting):
            for many in sorted({0, 1, 2, len(row) // 2, len(row) - 5, len(row) - 4, len(row) - 1}):
                yield tuple(whole[:at] + [many] + whole[at + 1:])
                yield tuple(whole[:at] + [many] + [0] * (len(waiting) - at - 1))

    def test_a_cut_at_each_place(self):
        for seed, web in enumerate((ONE, TWO, THREE, ring_web([2] * 4), full_web(4, [3, 1, 2, 6, 5, 4]))):
            mail = SavedMail(self, web, seed)
            for step in range(120):
                mail.step()
                number = step % web.many
                for kept in self.cuts(mail.slows[number].waiting()):
                    self.cut_and_anew(mail, number, kept)

    def cut_and_anew(self, mail, number, kept):
        """The house that is made of a copy of the disk, cut so, is that behind the last whole block."""
        slow, disk = mail.slows[number], mail.disks[number].copy()
        whole = [many == len(row) for many, row in zip(kept, slow.waiting())]
        many = slow.synced + (whole.index(False) if False in whole else len(whole))
        disk.cut(kept)
        post = SavedHouse(mail.web, number, disk)
        self.exactly(told(disk), (slow.blocks[:many], many))
        self.exactly(post.past(), SlowSaved(mail.web, number, slow.blocks[:many]).past())
        if False not in whole:
            self.exactly(post.past(), slow.past())

    def test_each_byte_of_a_waiting_block(self):
        disk = Disk()
        post = SavedHouse(TWO, 0, disk)
        pasts = [post.past()]
        for deed in (WAKE, ("hear", letter(1, 0, 1, (0, JOIN)))):
            post.deed(deed)
            pasts.append(post.past())
        first, second = disk.blocks()[1:]
        for one in range(len(first) + 1):
            for other in {0, len(second) - 1, len(second)}:
                twin = disk.copy()
                twin.cut((one, other))
                many = 0 if one < len(first) else 1 if other < len(second) else 2
                self.exactly(SavedHouse(TWO, 0, twin).past(), pasts[many])
                self.exactly(told(twin), (disk.blocks()[:1 + many], 1 + many))


class WhatIsNoted(unittest.TestCase, Exactly):
    def test_by_hand(self):
        disk = Disk()
        post = SavedHouse(TWO, 0, disk)
        mark = slow_mark(tuple(ord(sign) for sign in "houses 2\ntie 0 1 5\n"))
        first = sealed(("house", mark, 0))
        self.exactly(told(disk), ([first], 1))
        self.exactly(post.deed(WAKE), None)
        blocks = [first, sealed(("deed", WAKE))]
        self.exactly(told(disk), (blocks, 1))
        # What changes nothing is not noted.
        row = letter(1, 0, 0)
        self.exactly(post.deed(("hear", row)), "old")
        self.exactly(post.deed(("hear", (1, 2))), "none")
        self.refused(NoDeed, post.deed, WAKE)
        self.refused(NoDeed, post.deed, ("hear", None))
        self.exactly(told(disk), (blocks, 1))
        # Only a letter that is one syncs.
        self.refused(NoHouse, post.letter, 0)
        self.refused(NoHouse, post.letter, None)
        self.exactly(told(disk), (blocks, 1))
        self.exactly(unsealed(post.letter(1)), (("letter", 0, 1, 0, ((0, JOIN),)),))
        self.exactly(told(disk), (blocks, 2))
        row = letter(1, 0, 1, (0, JOIN))
        self.exactly(post.deed(("hear", row)), "new")
        blocks.append(sealed(("deed", ("hear", row))))
        self.exactly(told(disk), (blocks, 2))
        self.exactly(post.keep(), 4)
        blocks.append(sealed(("past", post.past())))
        self.exactly(told(disk), (blocks, 4))
        self.exactly(post.keep(), 5)
        self.exactly(told(disk), (blocks + blocks[-1:], 5))
        self.exactly(kept_parcels(disk.blocks())[3:], [("past", post.past())] * 2)

    def test_all_that_a_post_has(self):
        web = full_web(4, [4, 2, 6, 1, 3, 5])
        for number in range(4):
            post, plain = SavedHouse(web, number, Disk()), Post(web, number)
            self.assertIsInstance(post, Post)
            for deed in (WAKE, ("hear", letter(near(web, number)[0], number, 0, (0, JOIN)))):
                self.exactly(post.deed(deed), plain.deed(deed))
                self.exactly((post.state(), post.past()), (plain.state(), plain.past()))
                for other in near(web, number):
                    self.exactly(post.letter(other), plain.letter(other))

    def test_the_disk_that_was_passed_is_written(self):
        disk = Disk()
        post = SavedHouse(ONE, 0, disk)
        post.deed(WAKE)
        self.exactly(len(disk.blocks()), 2)
        disk.cut((3,))
        self.exactly(post.keep(), 3)
        self.exactly(told(disk)[1], 3)

    def test_no_deed(self):
        disk = Disk()
        post = SavedHouse(TWO, 0, disk)
        post.deed(WAKE)
        ahead = (told(disk), post.past())
        for thing in odd_things() + [WAKE, ["wake"], ("hear", [1]), ("keep",), ("deed", WAKE)]:
            self.refused(NoDeed, post.deed, thing)
            if thing != ():
                self.refused(NoDeed, post.deed, ("hear", thing))
        self.exactly((told(disk), post.past()), ahead)

    def test_no_house_for_a_letter(self):
        web = row_web([1, 2])
        disk = Disk()
        post = SavedHouse(web, 0, disk)
        post.deed(WAKE)
        for thing in odd_things() + [0, 2, 3, True, -1]:
            self.refused(NoHouse, post.letter, thing)
        self.exactly(disk.synced(), 1)


def run_blocks(web, number, seed):
    """The blocks of a house that woke, heard and kept in a run, and whether each is of a past."""
    case = unittest.TestCase()
    case.exactly = lambda got, wanted: None
    mail = SavedMail(case, web, seed)
    for _ in range(150):
        mail.step()
    while not mail.is_over():
        for asleep in mail.asleep():
            mail.wake(asleep)
        for one, other in ways_of(web):
            mail.bag.clear()
            mail.write(one, other)
            mail.bring(0, False)
    return mail.disks[number].blocks()


class Journals(unittest.TestCase, Exactly):
    """Houses that are made of blocks, of which some are otherwise."""

    def anew(self, web, number, blocks, synced=None):
        """Makes a house of blocks as a slow one is made; returns how many blocks are left."""
        disk = disk_of(blocks, synced)
        post, slow = SavedHouse(web, number, disk), SlowSaved(web, number, blocks)
        self.exactly(post.past(), slow.past())
        self.exactly(told(disk), (slow.blocks, len(slow.blocks)))
        # It goes on from there with this very disk.
        self.exactly(post.keep(), len(slow.blocks) + 1)
        self.exactly(disk.blocks()[-1], sealed(("past", slow.past())))
        return len(slow.blocks)

    def journals(self):
        yield TWO, 0, run_blocks(TWO, 0, 1)
        yield THREE, 1, run_blocks(THREE, 1, 2)
        web = full_web(4, [4, 2, 6, 1, 3, 5])
        yield web, 2, run_blocks(web, 2, 3)

    def test_right_ones(self):
        for web, number, blocks in self.journals():
            for many in range(len(blocks) + 1):
                for synced in (0, many // 2, many):
                    self.assertEqual(self.anew(web, number, blocks[:many], synced), max(1, many))

    def others(self, web, number, blocks, at):
        """Parcels of which none can come there, as far as it does not chance to be the next of the journal."""
        past = unsealed(sealed(("past", Post(web, number).past())))[0][1]
        ahead = [unsealed(block)[0] for block in blocks[1:at]]
        yield from [None, True, 0, "deed", (), ("deed",), ("past",), ("house", 1, number), unsealed(blocks[0])[0]]
        yield from [("past", past, past), ("Past", past), ("deed", WAKE, 0), ("deed", ("wake", 0)), ("deed", ())]
        yield from [("past", None), ("past", past[:2]), ("past", (past[0],) + past[:0:-1] + (0,)),
            ("past", (past[0], (), ()))]
        yield from [("past", (past[0][:1] + (10,) + past[0][2:],) + past[1:]), ("past", ("over",) + past[1:])]
        yield from [("deed", ("hear",)), ("deed", ("hear", 5)), ("deed", ("hear", (256,))),
            ("deed", ("hear", (1, True)))]
        yield from [("deed", ("hear", ())), ("deed", ("hear", row_of(("letter", 0, 1, 0, ()))))]
        yield from [("deed", ("hear", letter(other, number, 0))) for other in near(web, number)]
        yield from [("deed", ("hear", letter(number, number, 0))), (("deed",), WAKE), ("keep", past)]
        if ("deed", WAKE) in ahead:
            yield ("deed", WAKE)
        yield from ahead[-1:] if ahead and ahead[-1][0] == "deed" else []

    def test_a_block_otherwise(self):
        for web, number, blocks in self.journals():
            for at in range(1, len(blocks)):
                for parcel in self.others(web, number, blocks, at):
                    other = blocks[:at] + [sealed(parcel)] + blocks[at + 1:]
                    self.assertEqual(self.anew(web, number, other), at, parcel)
                    other = blocks[:at] + [sealed(parcel)] + blocks[at:]
                    self.assertEqual(self.anew(web, number, other), at, parcel)

    def test_a_block_that_is_broken(self):
        for web, number, blocks in self.journals():
            for at in range(1, len(blocks)):
                block = blocks[at]
                for other in ((), block[:-1], block[1:], block + (0,), block[:-4], (block[0] ^ 1,) + block[1:]):
                    self.assertEqual(self.anew(web, number, blocks[:at] + [other] + blocks[at + 1:]), at)

    def test_a_block_left_out(self):
        for web, number, blocks in self.journals():
            for at in range(1, len(blocks)):
                self.anew(web, number, blocks[:at] + blocks[at + 1:])

    def test_many_pasts(self):
        web = full_web(4, [4, 2, 6, 1, 3, 5])
        blocks = run_blocks(web, 2, 3)
        pasts = [sealed(("past", SlowSaved(web, 2, blocks[:many + 1]).past())) for many in range(len(blocks))]
        # From each past it goes on, whatever it was ahead; later deeds of the journal may be none then.
        for at in range(1, len(blocks)):
            self.assertEqual(self.anew(web, 2, blocks[:1] + [pasts[at]] + blocks[at + 1:]), len(blocks) - at + 1)
            self.anew(web, 2, blocks[:at] + [pasts[0]] + blocks[at:])
            self.anew(web, 2, blocks[:at] + [pasts[-1], pasts[at]] + blocks[at + 1:] + [pasts[0]])
        self.assertEqual(self.anew(web, 2, blocks[:1] + pasts), len(blocks) + 1)

    def test_a_past_that_never_comes_but_has_the_form(self):
        state = ("seeks", 9, (5, 0, 1), ("refused",), 10 ** 30, None, (), None, ((1, JOIN),))
        past = (state, ((7, (JOIN,) * 30),), ((2 ** 32 - 1, ()),))
        self.assertEqual(self.anew(TWO, 0, [slow_first_block(TWO, 0), sealed(("past", past))]), 2)


class FirstBlocks(unittest.TestCase, Exactly):
    def test_disks_of_other_houses_and_webs(self):
        webs = [ONE, TWO, THREE, row_web([6]), row_web([1, 2]), Web(3, ((0, 1, 5), (0, 2, 7), (1, 2, 7)))]
        disks = [
            (web, number, disk_of([slow_first_block(web, number), sealed(("deed", WAKE))], synced))
            for web in webs for number in range(web.many) for synced in (0, 1, 2)]
        for web in webs:
            for number in range(web.many):
                for other, place, disk in disks:
                    twin = disk.copy()
                    if (other, place) == (web, number):
                        self.exactly(SavedHouse(web, number, twin).past(), SlowSaved(web, number, disk.blocks()).past())
                        self.exactly(told(twin), (disk.blocks(), 2))
                    else:
                        self.refused(OtherHouse, SavedHouse, web, number, twin)
                        self.exactly(told(twin), told(disk))

    def test_triples_that_are_not_this_one(self):
        mark = slow_mark(tuple(map(ord, slow_web_text(TWO))))
        rest = [sealed(("deed", WAKE)), (1, 2, 3)]
        for parcel in (
                ("house", mark, 0), ("house", mark, True), ("house", mark, False), ("house", mark + 1, 1),
                ("house", -mark, 1),
                ("house", mark, -1), ("house", mark, 2), ("house", mark, None), ("house", str(mark), 1),
                ("house", mark, "1"),
                ("house", 1, mark), ("house", (mark,), 1), ("house", (), ()), ("house", mark, (1,))):
            for synced in range(4):
                disk = disk_of([sealed(parcel)] + rest, synced)
                ahead = told(disk)
                self.refused(OtherHouse, SavedHouse, TWO, 1, disk)
                self.exactly(told(disk), ahead)

    def test_first_blocks_that_are_sealed_of_none(self):
        first = slow_first_block(TWO, 1)
        self.blocks_are_dropped([(), first[:-1], first + (0,), (first[0] + 1,) + first[1:], first[:-4], (0,) * 9])

    def test_first_blocks_of_some_other_parcel(self):
        # The document tells nothing of these; they are no first block of a house, and are dropped likewise.
        past = ("past", Post(TWO, 1).past())
        parcels = [
            None, 0, "house", (), ("house",), ("house", 5), ("house", 5, 1, 0), ("House", 5, 1), (5, "house", 1), past,
            ("deed", WAKE), (("house", 5, 1),), (("house",), 5, 1), (None, None, None)]
        self.blocks_are_dropped([sealed(parcel) for parcel in parcels])

    def blocks_are_dropped(self, blocks):
        first = slow_first_block(TWO, 1)
        for block in blocks:
            for rest in ([], [first], [sealed(("deed", WAKE))], [first, sealed(("deed", WAKE))]):
                for synced in range(len(rest) + 2):
                    disk = disk_of([block] + rest, synced)
                    self.exactly(SavedHouse(TWO, 1, disk).past(), Post(TWO, 1).past())
                    self.exactly(told(disk), ([first], 1))

    def test_a_disk_without_blocks(self):
        for web in mail_webs()[:10]:
            for number in range(web.many):
                disk = Disk()
                self.exactly(SavedHouse(web, number, disk).past(), Post(web, number).past())
                self.exactly(told(disk), ([slow_first_block(web, number)], 1))


class MovedAndCopied(unittest.TestCase, Exactly):
    def house(self):
        disk = Disk()
        post = SavedHouse(THREE, 0, disk)
        post.deed(WAKE)
        post.deed(("hear", letter(1, 0, 1, (0, JOIN), (3, ("yes",)))))
        return post, disk

    def test_moved(self):
        post, disk = self.house()
        ahead = (told(disk), post.past())
        other = Disk()
        twin = post.moved(other)
        self.assertIs(type(twin), SavedHouse)
        self.exactly(twin.past(), post.past())
        blocks = [slow_first_block(THREE, 0), sealed(("past", post.past()))]
        self.exactly(told(other), (blocks, 2))
        self.exactly((told(disk), post.past()), ahead)
        # Both go on, each over its own disk.
        self.exactly(twin.deed(("hear", letter(2, 0, 0, (0, JOIN)))), "new")
        self.exactly((told(disk), post.past()), ahead)
        self.exactly((len(other.blocks()), other.synced()), (3, 2))
        self.exactly(SavedHouse(THREE, 0, other.copy()).past(), twin.past())
        behind = (told(other), twin.past())
        post.deed(("hear", letter(1, 0, 1, (1, JOIN))))
        post.keep()
        self.exactly((told(other), twin.past()), behind)

    def test_moved_of_one_that_did_nothing(self):
        disk = Disk()
        twin = SavedHouse(ONE, 0, Disk()).moved(disk)
        self.exactly(told(disk), ([slow_first_block(ONE, 0), sealed(("past", Post(ONE, 0).past()))], 2))
        self.exactly(twin.keep(), 3)

    def test_onto_a_disk_whose_blocks_are_gone(self):
        post, _ = self.house()
        disk = disk_of([(1,), (2,)], 1)
        disk.drop(0)
        self.exactly(post.moved(disk).keep(), 3)

    def test_no_disk(self):
        post, disk = self.house()
        ahead = (told(disk), post.past())
        for thing in odd_things() + [None, disk, disk.blocks(), Disk]:
            if not isinstance(thing, Disk) or thing.blocks():
                self.refused(NoDisk, post.moved, thing)
        for blocks in ([()], [(1, 2)], [slow_first_block(THREE, 0)], [slow_first_block(THREE, 1)], [(1,), (2,)]):
            for synced in (0, 1):
                other = disk_of(blocks, synced)
                self.refused(NoDisk, post.moved, other)
                self.exactly(told(other), (blocks, synced))
        self.exactly((told(disk), post.past()), ahead)

    def test_copies_go_on_apart_with_their_disks(self):
        post, disk = self.house()
        twin = post.copy()
        self.assertIs(type(twin), SavedHouse)
        self.exactly(twin.past(), post.past())
        ahead = (told(disk), post.past())
        self.exactly(twin.deed(("hear", letter(2, 0, 0, (0, JOIN)))), "new")
        self.exactly(twin.keep(), 5)
        twin.letter(1)
        self.exactly((told(disk), post.past()), ahead)
        behind = twin.past()
        self.exactly(post.deed(("hear", letter(1, 0, 1, (1, JOIN)))), "new")
        self.exactly(post.keep(), 5)
        self.exactly(twin.past(), behind)
        self.exactly(twin.keep(), 6)

    def test_a_copy_of_a_copy(self):
        post, disk = self.house()
        twin = post.copy().copy()
        disk.cut((0, 0))
        self.exactly(twin.keep(), 4)
        self.exactly(post.keep(), 4)

    def test_equal_to_nothing_else(self):
        post, disk = self.house()
        for thing in odd_things() + [disk, post.past(), Post(THREE, 0)]:
            self.assertFalse(post == thing)


class Errors(unittest.TestCase, Exactly):
    def test_no_house_then_no_disk_then_other_house(self):
        other = disk_of([slow_first_block(THREE, 1)])
        wrong = disk_of([(1, 2)])
        for thing in odd_things() + [3, -1, True]:
            for disk in (None, thing, other, wrong, Disk()):
                self.refused(NoHouse, SavedHouse, THREE, thing, disk)
        for thing in odd_things() + [None, [], other.blocks(), Disk]:
            if not isinstance(thing, Disk):
                self.refused(NoDisk, SavedHouse, THREE, 0, thing)
        self.refused(OtherHouse, SavedHouse, THREE, 0, other)
        self.exactly((told(other), told(wrong)), (([slow_first_block(THREE, 1)], 1), ([(1, 2)], 1)))

    def test_odd_first_blocks(self):
        for block in ((), (255,), (6,), (6, 3), tuple(range(256)), (6, 1) * 3000, (6, 255, 255, 255, 255, 15)):
            disk = disk_of([block])
            SavedHouse(THREE, 0, disk)
            self.exactly(disk.blocks(), [slow_first_block(THREE, 0)])


class Facts(unittest.TestCase, Exactly):
    def test_equal_calls_give_equal_blocks(self):
        self.exactly(run_blocks(THREE, 1, 5), run_blocks(THREE, 1, 5))

    def test_deeds_by_chance_over_many_cuts(self):
        chance = Random(11)
        for seed in range(5):
            mail = SavedMail(self, chance.choice(mail_webs()[4:]), seed)
            for _ in range(150):
                mail.step()
                mail.cut(chance.randrange(mail.web.many))


if __name__ == "__main__":
    unittest.main()
