"""Nets: each deed done and refused, long runs through faults, round trips, settling, bounds, errors."""

import unittest
from random import Random

from leastroads.disks import Disk
from leastroads.ends import bounds
from leastroads.errors import BadDeeds, NoDeed, NoHouse, NoNumber
from leastroads.glass import broken, first_glass, is_glass
from leastroads.nets import Net, led_by, round_trip, settle
from leastroads.posts import Post
from leastroads.rows import sealed, unsealed
from leastroads.savings import SavedHouse
from leastroads.webs import Web
from tests.mail import is_done
from tests.orders import full_web, ring_web, row_web, star_web
from tests.slow import greater_webs, small_webs
from tests.slow_glass import slow_bounds, slow_broken
from tests.slow_nets import SlowNet
from tests.slow_posts import Refused, is_slow_row, slow_first_block, slow_number
from tests.slow_states import near
from tests.things import Exactly, odd_things

THREE = Web(3, ((0, 1, 5), (0, 2, 7), (1, 2, 6)))
ONE = Web(1, ())
TWO = row_web([5])
JOIN = ("join", 0)
SORTS = ("join", "begin", "ask", "yes", "no", "report", "turn", "over")


def net_webs():
    """Webs of one to ten houses."""
    shapes = [
        ONE, TWO, row_web([0]), THREE, row_web([1, 2]), row_web([3, 3, 3]), ring_web([1] * 4), star_web([4, 3, 2, 1]),
        full_web(4, [0] * 6), full_web(5, [7, 3, 9, 1, 4, 4, 0, 8, 2, 6]), row_web(list(range(9)))]
    return shapes + list(small_webs())[9::60] + list(greater_webs())[3::9]


def letter(sender, to, taken, *items):
    return sealed(("letter", sender, to, taken, items))


def told(net):
    """All that can be asked of a net, as a slow one tells it."""
    houses = range(net.web.many)
    disks = [net.disk(number) for number in houses]
    pasts = [net.house(number).past() for number in houses]
    return (pasts, [(disk.blocks(), disk.synced()) for disk in disks], net.bag(), net.glass())


def limit_of(web):
    """The number of round trips behind which each net of the web has settled."""
    level = max(level for level in range(4) if 2 ** level <= web.many)
    return 5 * web.many * level + 2 * len(web.ties) + 2


class DeedsByChance:
    """Draws deeds for a net, some of which can't be done."""

    def __init__(self, chance, web):
        self.chance, self.web = chance, web

    def row(self):
        return tuple(self.chance.randrange(256) for _ in range(self.chance.choice((0, 1, 5, 40))))

    def kept(self, slow, house):
        """Mostly what may be left of the blocks that wait."""
        waiting = [len(row) for row in slow.houses[house].waiting()]
        kept = [self.chance.choice((many, many, self.chance.randint(0, many))) for many in waiting]
        if self.chance.random() < 0.1:
            kept.append(0)
        if kept and self.chance.random() < 0.1:
            kept[-1] = waiting[-1] + 1 if len(kept) == len(waiting) else True
        return tuple(kept)

    def draw(self, slow):
        chance, house = self.chance, self.chance.randrange(self.web.many)
        others = near(self.web, house) or [house]
        place = chance.randrange(len(slow.bag) + 1) if slow.bag else 0
        row = slow.bag[place][1] if place < len(slow.bag) else self.row()
        spoil = ("spoil", place, chance.randrange(len(row) + 1), chance.choice((0, row[0] if row else 1, 255)))
        to = chance.choice(others) if chance.random() < 0.95 else house
        deeds = [("wake", house), ("keep", house), ("post", house, to), ("bring", place), ("lose", place)]
        deeds += [("double", place), spoil, ("send", house, self.row()), ("cut", house, self.kept(slow, house))]
        return chance.choices(deeds, (4, 3, 30, 25, 4, 6, 4, 2, 8))[0]


class Beside(Exactly):
    def do(self, net, slow, deed):
        """Does a deed of both, and compares what they told and what they are; whether it was done."""
        ahead = repr(deed)
        try:
            wanted = slow.deed(deed)
        except Refused:
            self.refused(NoDeed, net.deed, deed)
            return False
        self.exactly(net.deed(deed), wanted)
        self.exactly(repr(deed), ahead)
        return True

    def led(self, web, seed, many):
        """A net and a slow one led by deeds by chance, and the deeds that were done."""
        net, slow, done = Net(web), SlowNet(web), []
        drawn = DeedsByChance(Random(seed), web)
        for _ in range(many):
            deed = drawn.draw(slow)
            if self.do(net, slow, deed):
                done.append(deed)
            self.exactly(told(net), slow.told())
            self.exactly(broken(web, net.glass()), ())
            self.within_bounds(web, net)
        return net, slow, done

    def within_bounds(self, web, net):
        taken = sum(end[0] for number in range(web.many) for end in net.house(number).past()[2])
        level = max(level for level in range(4) if 2 ** level <= web.many)
        self.assertLessEqual(taken, 5 * web.many * level + 2 * len(web.ties))


class LongRuns(unittest.TestCase, Beside):
    def test_deeds_by_chance_and_then_an_end(self):
        for seed, web in enumerate(net_webs()):
            net, slow, done = self.led(web, seed, 40 + 60 * web.many // 2)
            self.exactly(slow_broken(web, net.glass()), ())
            bag = net.bag()
            many = settle(net, 1000)
            self.exactly(many, slow.settle(1000))
            self.exactly(told(net), slow.told())
            self.assertLessEqual(many, limit_of(web))
            self.exactly(net.bag(), bag)
            self.assertTrue(is_done(web, net.glass()[0]))
            self.exactly(net.glass()[1], ())
            self.exactly(broken(web, net.glass()), ())
            self.within_bounds(web, net)
            self.one_less(web, done, many)

    def one_less(self, web, done, many):
        """One round trip less is not enough, one more is none, whatever the letters in the bag."""
        if many > 0:
            twin = Net(web)
            led_by(twin, done)
            self.exactly(settle(twin, many - 1), many - 1)
            states, ways = twin.glass()
            waiting = [end for number in range(web.many) for end in twin.house(number).past()[1] if end[1]]
            self.assertTrue(waiting or any(state[0] != "over" for state in states))
            self.exactly(settle(twin, 5), 1)
            self.exactly(settle(twin, 5), 0)
        twin = Net(web)
        led_by(twin, done)
        self.exactly(settle(twin, many), many)
        ahead = told(twin)
        self.exactly(settle(twin, many + 1), 0)
        self.exactly(told(twin), ahead)

    def test_words_taken_sort_by_sort(self):
        # Each word that is put has one number; the words that are taken are the first ones of each link.
        for seed, web in enumerate(net_webs()):
            net = Net(web)
            drawn, slow, words = DeedsByChance(Random(seed + 50), web), SlowNet(web), {}
            for _ in range(60 + 10 * web.many):
                deed = drawn.draw(slow)
                if self.do(net, slow, deed):
                    self.gather(web, slow, words)
            while not slow.is_settled():
                for one, other in slow.pairs():
                    self.do_all(net, slow, one, other, words)
            self.exactly(told(net), slow.told())
            counts = dict.fromkeys(SORTS, 0)
            for word in words.values():
                counts[word[0]] += 1
            sums = [counts["join"] + counts["turn"]] + [counts[sort] for sort in ("begin", "ask", "yes", "no",
                "report", "over")]
            for many, most in zip(sums, slow_bounds(web)):
                self.assertLessEqual(many, most)
            self.exactly(bounds(web), slow_bounds(web))
            self.assertLessEqual(counts["ask"] + counts["no"], counts["yes"] + 2 * len(web.ties))

    def gather(self, web, slow, words):
        for one, other in slow.pairs():
            for number, word in slow.houses[one].post.waiting(other):
                words[one, other, number] = word

    def do_all(self, net, slow, one, other, words):
        if slow.houses[one].state()[0] == "asleep":
            self.do(net, slow, ("wake", one))
        self.do(net, slow, ("post", one, other))
        self.gather(net.web, slow, words)
        self.do(net, slow, ("bring", len(slow.bag) - 1))
        self.gather(net.web, slow, words)

    def test_the_end_is_the_same_whatever_came_ahead(self):
        for seed in range(12):
            net = Net(THREE)
            drawn, slow = DeedsByChance(Random(seed), THREE), SlowNet(THREE)
            for _ in range(100):
                self.do(net, slow, drawn.draw(slow))
            settle(net, 1000)
            self.assertTrue(is_done(THREE, net.glass()[0]))

    def test_equal_deeds_give_equal_nets(self):
        for seed in (1, 2):
            net, slow, done = self.led(THREE, seed, 150)
            twin = Net(THREE)
            led_by(twin, tuple(done))
            self.exactly(told(twin), told(net))


class EachDeed(unittest.TestCase, Beside):
    def test_at_first(self):
        for web in net_webs():
            net = Net(web)
            self.exactly(net.glass(), first_glass(web))
            self.exactly(net.bag(), [])
            for number in range(web.many):
                self.assertIs(type(net.house(number)), SavedHouse)
                self.assertIs(type(net.disk(number)), Disk)
                self.exactly(net.house(number).past(), Post(web, number).past())
                self.exactly(net.disk(number).blocks(), [slow_first_block(web, number)])
                self.exactly(net.disk(number).synced(), 1)

    def test_by_hand(self):
        net = Net(TWO)
        self.exactly(net.deed(("wake", 0)), None)
        self.exactly(net.glass()[1], ((0, 1, (JOIN,)),))
        self.exactly(net.deed(("post", 0, 1)), None)
        row = letter(0, 1, 0, (0, JOIN))
        self.exactly(net.bag(), [(1, row)])
        self.exactly(net.deed(("double", 0)), None)
        self.exactly(net.bag(), [(1, row), (1, row)])
        self.exactly(net.deed(("spoil", 0, 0, row[0])), None)
        self.exactly(net.bag(), [(1, row), (1, row)])
        self.exactly(net.deed(("spoil", 0, 0, 7)), None)
        spoilt = (7,) + row[1:]
        self.exactly(net.bag(), [(1, spoilt), (1, row)])
        self.exactly(net.deed(("send", 0, (1, 2))), None)
        self.exactly(net.bag(), [(1, spoilt), (1, row), (0, (1, 2))])
        self.exactly(net.deed(("bring", 0)), "none")
        self.exactly(net.deed(("bring", 1)), "none")
        self.exactly(net.bag(), [(1, row)])
        self.exactly(net.deed(("double", 0)), None)
        self.exactly(net.deed(("bring", 0)), "new")
        begin = ("begin", 1, (5, 0, 1), 1)
        # What is taken is on its way no more, though the first house does not know of it.
        self.exactly(net.glass()[1], ((1, 0, (JOIN, begin)),))
        self.exactly(net.house(0).past()[1], ((0, (JOIN,)),))
        self.exactly(net.deed(("bring", 0)), "old")
        self.exactly(net.deed(("keep", 1)), 3)
        self.exactly(net.deed(("cut", 1, ())), None)
        self.exactly(net.deed(("keep", 1)), 4)
        self.exactly(net.deed(("post", 1, 0)), None)
        self.exactly(net.deed(("lose", 0)), None)
        self.exactly(net.bag(), [])
        self.exactly(net.glass()[1], ((1, 0, (JOIN, begin)),))

    def test_a_cut_house_is_made_anew(self):
        net = Net(TWO)
        net.deed(("wake", 0))
        self.exactly(net.house(0).state()[0], "found")
        waiting = net.disk(0).blocks()[1]
        self.exactly(net.deed(("cut", 0, (len(waiting) - 1,))), None)
        self.exactly(net.house(0).past(), Post(TWO, 0).past())
        self.exactly(net.disk(0).blocks(), [slow_first_block(TWO, 0)])
        self.exactly(net.glass(), first_glass(TWO))
        net.deed(("wake", 0))
        self.exactly(net.deed(("cut", 0, (len(waiting),))), None)
        self.exactly(net.house(0).state()[0], "found")
        self.exactly(net.disk(0).synced(), 2)
        self.refused(NoDeed, net.deed, ("wake", 0))

    def test_a_cut_of_a_long_block(self):
        items = [(number, ("begin", 1, (5, 0, 1), 1)) for number in range(1, 21)]
        for many in (0, 255, 256, 700, -1):
            net = Net(THREE)
            # The house is the net's own, so that what it hears is noted on the net's disk.
            self.exactly(net.house(1).deed(("hear", letter(0, 1, 0, *items))), "new")
            block = net.disk(1).blocks()[1]
            self.assertGreater(len(block), 700)
            past = net.house(1).past()
            self.exactly(net.deed(("cut", 1, (many if many >= 0 else len(block),))), None)
            self.exactly(net.house(1).past(), past if many < 0 else Post(THREE, 1).past())
            self.exactly(len(net.disk(1).blocks()), 2 if many < 0 else 1)

    def test_a_letter_of_more_than_once(self):
        net = Net(THREE)
        led_by(net, [("wake", 0), ("post", 0, 1), ("double", 0), ("double", 0)])
        self.exactly(led_by(net, (("bring", 2), ("bring", 0), ("bring", 0))), ["new", "old", "old"])
        self.exactly(net.bag(), [])

    def test_a_letter_for_another_house_is_heard_by_it_too(self):
        net = Net(THREE)
        net.deed(("wake", 0))
        net.deed(("post", 0, 1))
        for number in range(3):
            self.exactly(net.house(number).deed(("hear", net.bag()[0][1])), "new" if number == 1 else "none")

    def test_what_is_returned_is_new(self):
        net = Net(TWO)
        net.deed(("wake", 0))
        net.deed(("post", 0, 1))
        net.bag().append(None)
        net.bag().clear()
        self.exactly(len(net.bag()), 1)
        disk = net.disk(0)
        disk.write((1,))
        disk.drop(0)
        self.exactly(len(net.disk(0).blocks()), 2)
        self.exactly(net.deed(("keep", 0)), 3)

    def test_a_net_is_equal_to_nothing_else(self):
        for thing in odd_things() + [Net(ONE).glass()]:
            self.assertFalse(Net(ONE) == thing)


class Refusals(unittest.TestCase, Beside):
    def net(self):
        """A net with something in its bag and something that waits on its disks."""
        web, deeds = row_web([1, 2]), [
            ("wake", 0), ("post", 0, 1), ("double", 0), ("spoil", 1, 3, 200), ("send", 2, (9, 9)), ("wake", 2)]
        net, slow = Net(web), SlowNet(web)
        for deed in deeds:
            self.assertTrue(self.do(net, slow, deed))
        return net, slow

    def test_none_of_the_nine_sorts(self):
        net, slow = self.net()
        ahead = told(net)
        wrong = odd_things() + [
            "wake", ["wake", 0], ("Wake", 1), (("wake",), 1), ("wake",), ("wake", 1, 1), ("hear", (1,)),
            ("take", 0, 1), ("keep",), ("keep", 0, 0), ("post", 0), ("post", 0, 1, 2), ("bring",), ("bring", 0, 0),
            ("lose",), ("lose", 0, 1), ("double",), ("double", 0, 0), ("spoil", 0, 0), ("spoil", 0, 0, 0, 0),
            ("send", 0), ("send", 0, (), ()), ("cut", 0), ("cut", 0, (), ()), {"wake": 0}, (None, 0), (0, "wake"),
            b"wake"]
        for thing in wrong:
            self.refused(NoDeed, net.deed, thing)
            self.assertFalse(self.do(net, slow, thing))
        self.exactly(told(net), ahead)

    def test_each_part_odd(self):
        net, slow = self.net()
        ahead = told(net)
        rights = [
            ("wake", 1), ("keep", 0), ("post", 0, 1), ("bring", 0), ("lose", 0), ("double", 0), ("spoil", 0, 0, 7),
            ("send", 0, (1,)), ("cut", 1, ())]
        more = [-1, 3, True, False, 256, 10 ** 20, "0", (0,), None, (1, 256), (True,), [1], {0: 1}, (1, "1"), b"\x01"]
        for right in rights:
            for at in range(1, len(right)):
                for thing in odd_things() + more:
                    deed = right[:at] + (thing,) + right[at + 1:]
                    if not self.is_right(deed, at):
                        self.assertFalse(self.do(net, slow, deed), deed)
        self.exactly(told(net), ahead)

    def is_right(self, deed, at):
        """Whether a deed with an odd part is right all the same."""
        if deed[0] == "spoil" and at > 1:
            return slow_number(deed[at]) and deed[at] < 256 and deed[at] < (len(letter(0, 1, 0,
                (0, JOIN))) if at == 2 else 256)
        return deed[0] == "send" and at == 2 and is_slow_row(deed[at]) or deed == ("cut", 1, ())

    def test_what_can_not_be_done(self):
        net, slow = self.net()
        ahead = told(net)
        row = net.bag()[0][1]
        spoilt = net.bag()[1][1]
        waiting = len(slow.houses[2].waiting()[0])
        for deed in (
                ("wake", 0), ("wake", 2), ("wake", 3), ("keep", 3), ("post", 0, 2), ("post", 2, 0), ("post", 0, 0),
                ("post", 3, 1),
                ("post", 1, 3), ("bring", 3), ("lose", 3), ("double", 3), ("bring", -1), ("lose", True),
                ("double", False),
                ("spoil", 3, 0, 0), ("spoil", 0, len(row), 0), ("spoil", 0, -1, 0), ("spoil", 0, 0, 256),
                ("spoil", 0, 0, -1),
                ("spoil", 0, 0, True), ("spoil", 0, True, 0), ("spoil", 2, 2, 0), ("send", 0, row),
                ("send", 1, sealed(None)),
                ("send", 3, (1,)), ("send", 0, [1]), ("send", 0, (256,)), ("cut", 2, ()), ("cut", 2, (waiting + 1,)),
                ("cut", 2, (0, 0)), ("cut", 2, [0]), ("cut", 2, (True,)), ("cut", 2, None), ("cut", 1, (0,)),
                ("cut", 3, ())):
            self.assertFalse(self.do(net, slow, deed), deed)
            self.exactly(told(net), ahead)
        # A row that was spoilt may not be made a right one again.
        self.assertEqual(unsealed(spoilt), ())
        self.refused(NoDeed, net.deed, ("spoil", 1, 3, row[3]))
        self.exactly(told(net), ahead)
        self.assertTrue(self.do(net, slow, ("spoil", 1, 3, spoilt[3])))
        self.assertTrue(self.do(net, slow, ("spoil", 1, 3, 201)))
        self.exactly(told(net), slow.told())

    def test_a_spoil_that_would_seal_something_else(self):
        # A row of a whole whose seal is right but for one byte.
        net = Net(TWO)
        row = sealed((1, 2))
        other = row[:3] + (row[3] ^ 1,) + row[4:]
        net.deed(("send", 1, other))
        self.refused(NoDeed, net.deed, ("spoil", 0, 3, row[3]))
        self.exactly(net.bag(), [(1, other)])
        self.exactly(net.deed(("spoil", 0, 3, other[3])), None)
        self.exactly(net.deed(("bring", 0)), "none")

    def test_no_house(self):
        net = Net(THREE)
        for thing in odd_things() + [3, -1, True, False, "0", (0,), None]:
            self.refused(NoHouse, net.house, thing)
            self.refused(NoHouse, net.disk, thing)


class LedBy(unittest.TestCase, Beside):
    def test_what_is_returned(self):
        deeds = [("wake", 0), ("keep", 0), ("post", 0, 1), ("bring", 0), ("keep", 1), ("send", 0, ()), ("bring", 0)]
        for kind in (list, tuple):
            net = Net(TWO)
            self.exactly(led_by(net, kind(deeds)), [None, 3, None, "new", 3, None, "none"])
        self.exactly(led_by(Net(TWO), []), [])
        self.exactly(led_by(Net(TWO), ()), [])
        self.exactly(deeds[0], ("wake", 0))

    def test_those_ahead_of_the_first_that_is_none_are_done(self):
        deeds = [("wake", 0), ("post", 0, 1), ("bring", 0), ("post", 1, 0), ("keep", 1)]
        for at in range(len(deeds) + 1):
            for wrong in (None, ("wake", 0, 0), ("bring", 7), ("wake", True), [("wake", 1)], "wake"):
                net, twin = Net(TWO), Net(TWO)
                led_by(twin, deeds[:at])
                error = self.refused(BadDeeds, led_by, net, deeds[:at] + [wrong] + deeds[at:])
                self.exactly(error.index, at)
                self.exactly(told(net), told(twin))

    def test_bad_deeds(self):
        for thing in odd_things() + [None, "wake", {0: ("wake", 0)}, ("wake", 0), Net(TWO)]:
            net = Net(TWO)
            if isinstance(thing, (list, tuple)):
                if len(thing) > 0:
                    self.exactly(self.refused(BadDeeds, led_by, net, thing).index, 0)
            else:
                self.exactly(self.refused(BadDeeds, led_by, net, thing).index, -1)
            self.exactly(net.glass(), first_glass(TWO))


class RoundTrips(unittest.TestCase, Beside):
    def test_beside_a_slow_one(self):
        for web in net_webs():
            net, slow = Net(web), SlowNet(web)
            for _ in range(3):
                self.exactly(round_trip(net), None)
                slow.round_trip()
                self.exactly(told(net), slow.told())

    def test_by_hand(self):
        net = Net(ONE)
        self.exactly(round_trip(net), None)
        self.exactly(net.glass()[0][0][0], "over")
        net = Net(TWO)
        net.deed(("send", 0, (5,)))
        self.exactly(round_trip(net), None)
        self.exactly(net.bag(), [(0, (5,))])
        self.exactly([state[0] for state in net.glass()[0]], ["over", "over"])

    def test_settle_of_each_web(self):
        for web in list(small_webs())[::7] + list(greater_webs())[::4]:
            net = Net(web)
            many = settle(net, 1000)
            self.assertLessEqual(many, limit_of(web))
            self.assertTrue(is_done(web, net.glass()[0]))
            self.assertTrue(is_glass(web, net.glass()))
            self.exactly(settle(net, 1000), 0)

    def test_so_many_at_most(self):
        web = full_web(5, [7, 3, 9, 1, 4, 4, 0, 8, 2, 6])
        whole = settle(Net(web), 1000)
        self.assertGreater(whole, 1)
        for most in range(whole + 3):
            net, twin = Net(web), Net(web)
            self.exactly(settle(net, most), min(most, whole))
            for _ in range(min(most, whole)):
                round_trip(twin)
            self.exactly(told(net), told(twin))
        net = Net(web)
        self.exactly(settle(net, 0), 0)
        self.exactly(net.glass(), first_glass(web))

    def test_no_number(self):
        for thing in odd_things() + [1001, 10 ** 20, -1, True, False, "1", (1,), None]:
            net = Net(TWO)
            self.refused(NoNumber, settle, net, thing)
            self.exactly(net.glass(), first_glass(TWO))
        for most in (0, 1, 999, 1000):
            self.exactly(settle(Net(TWO), most), min(most, 1))


if __name__ == "__main__":
    unittest.main()
