"""The whole program: one run by all doors, texts there and back, equal calls, copies, equality, the readme."""

import re
import unittest
from itertools import combinations
from pathlib import Path
from random import Random

from leastroads.desks import Desk
from leastroads.disks import Disk
from leastroads.ends import bounds, run_out
from leastroads.films import Reel, drawn, drawn_marks, drawn_tree
from leastroads.glass import broken, first_glass, fragments, is_glass, marked, moved, moves
from leastroads.links import Incoming, Outgoing
from leastroads.nets import Net, round_trip, settle
from leastroads.posts import Post, post_of
from leastroads.records import Record, by_least, first_wrong, glass_then, longest_chain, recorded
from leastroads.rows import unsealed
from leastroads.savings import SavedHouse
from leastroads.texts import (
    moves_text, read_moves, read_record, read_tree, read_web, record_text, tree_text, web_text,
)
from leastroads.trees import better, is_paper, is_tree, least_tree, paper_of, weight_of
from leastroads.waves import Wave
from leastroads.webs import Web
from tests.mail import is_done, mail_webs
from tests.slow import greater_webs, slow_least, small_webs
from tests.slow_states import near
from tests.things import Exactly, odd_things

THREE = Web(3, ((0, 1, 5), (0, 2, 7), (1, 2, 6)))
README = Path(__file__).resolve().parent.parent / "README.md"


def whole_webs():
    return mail_webs() + list(small_webs())[3::50] + list(greater_webs())[1::17]


def run_by_moves(web, choices):
    """The moves of a run by choices, and its last glass, by moves and moved alone."""
    glass, made = first_glass(web), []
    while moves(web, glass):
        some = moves(web, glass)
        made.append(some[choices[len(made)] % len(some)] if len(made) < len(choices) else some[0])
        glass = moved(web, glass, made[-1])
    return made, glass


class Trips:
    """Round trips of a net, told by moves: which words each house took, and which are known to be taken."""

    def __init__(self, web):
        self.web, self.glass, self.made = web, first_glass(web), []
        pairs = [(one, other) for one in range(web.many) for other in near(web, one)]
        self.taken, self.known = dict.fromkeys(pairs, 0), dict.fromkeys(pairs, 0)

    def make(self, move):
        self.made.append(move)
        self.glass = moved(self.web, self.glass, move)

    def on_way(self, pair):
        return sum(len(way[2]) for way in self.glass[1] if way[:2] == pair)

    def waits(self, pair):
        return self.taken[pair] + self.on_way(pair) > self.known[pair]

    def waiting(self):
        return any(self.waits(pair) for pair in self.taken)

    def hears(self, one, other):
        """The other hears the letter of the one."""
        self.known[other, one] = self.taken[other, one]
        for _ in range(self.on_way((one, other))):
            self.make(("take", one, other))
            self.taken[one, other] += 1

    def make_one(self):
        for number in range(self.web.many):
            if ("wake", number) in moves(self.web, self.glass):
                self.make(("wake", number))
        for one, other in sorted(self.taken):
            while self.waits((one, other)):
                self.hears(one, other)
                self.hears(other, one)


class AllDoors(unittest.TestCase, Exactly):
    def test_one_run_comes_to_one_glass(self):
        chance = Random(1)
        for web in whole_webs():
            choices = [chance.randrange(1000) for _ in range(chance.choice((0, 10, 400)))]
            made, glass = run_by_moves(web, choices)
            self.exactly(run_out(web, choices)[0], glass)
            reel = Reel(web, made, chance.randint(1, 20))
            reel.seek(len(made))
            self.exactly(reel.glass_there(), glass)
            record = recorded(web, choices)
            self.exactly(first_wrong(record), None)
            self.exactly(glass_then(record, len(record.events)), glass)
            self.exactly([event[:3] for event in record.events if event[0] != "over"], made)
            other = by_least(record)
            self.exactly(glass_then(other, len(other.events)), glass)
            self.by_the_desk(web, made, glass)
            self.exactly(sum(run_out(web, choices)[1]), len([move for move in made if move[0] == "take"]))
            self.assertTrue(is_done(web, glass[0]))
            self.exactly((marked(web, glass), broken(web, glass)), (slow_least(web), ()))

    def by_the_desk(self, web, made, glass):
        desk = Desk()
        desk.tell("web a " + web_text(web).replace("\n", "|"))
        for move in made[:30]:
            desk.tell(" ".join([move[0], "a"] + [str(house) for house in move[1:]]))
        self.exactly(desk.tell("done a"), moves_text(made[:30]).replace("\n", "|"))
        if len(made) <= 30:
            self.exactly(desk.tell("view a"), drawn(web, glass).replace("\n", "|"))
            self.exactly(desk.tell("marks a"), drawn_marks(web, glass).replace("\n", "|"))

    def takes_of(self, web, net, ahead):
        """The takes of the words that were taken since the houses had taken so many."""
        found = []
        for to in range(web.many):
            for one, end, before in zip(near(web, to), net.house(to).past()[2], ahead[to]):
                found += [("take", one, to)] * (end[0] - before)
        return found

    def test_a_net_goes_the_way_of_its_moves(self):
        for seed, web in enumerate(whole_webs()):
            chance, net, glass = Random(seed), Net(web), first_glass(web)
            for _ in range(20 * web.many + 20 * len(web.ties)):
                ahead = [[end[0] for end in net.house(number).past()[2]] for number in range(web.many)]
                asleep = [number for number in range(web.many) if net.house(number).state()[0] == "asleep"]
                made = []
                if asleep and chance.random() < 0.2:
                    made = [("wake", chance.choice(asleep))]
                    net.deed(made[0])
                elif net.bag() and chance.random() < 0.6:
                    net.deed(("bring", chance.randrange(len(net.bag()))))
                elif web.ties:
                    a, b, _ = chance.choice(web.ties)
                    net.deed(("post",) + chance.choice(((a, b), (b, a))))
                for move in made + self.takes_of(web, net, ahead):
                    glass = moved(web, glass, move)
                self.exactly(net.glass(), glass)
                self.assertTrue(is_glass(web, net.glass()))

    def test_a_net_that_settles(self):
        for web in whole_webs():
            net, trips = Net(web), Trips(web)
            many = 0
            while moves(web, trips.glass) or trips.waiting():
                trips.make_one()
                many += 1
            glass, made = trips.glass, trips.made
            self.exactly(settle(net, 1000), many)
            self.exactly(net.glass(), glass)
            reel = Reel(web, made, 10)
            reel.seek(len(made))
            self.exactly(reel.glass_there(), glass)
            choices = self.choices_of(web, made)
            self.exactly(run_out(web, choices)[0], glass)
            record = recorded(web, choices)
            self.exactly(glass_then(record, len(record.events)), glass)
            level = max(level for level in range(4) if 2 ** level <= web.many)
            self.assertLessEqual(many, 5 * web.many * level + 2 * len(web.ties) + 2)

    def choices_of(self, web, made):
        glass, found = first_glass(web), []
        for move in made:
            found.append(moves(web, glass).index(move))
            glass = moved(web, glass, move)
        return found

    def test_round_trips_end(self):
        net = Net(THREE)
        for _ in range(4):
            round_trip(net)
        self.exactly(settle(net, 1000), 0)


class ReadBack(unittest.TestCase, Exactly):
    def test_webs_trees_moves_and_records(self):
        for web in whole_webs():
            tree, record = least_tree(web), recorded(web, (3, 1, 4, 1, 5))
            self.assertEqual(read_web(web_text(web)), web)
            self.exactly(read_tree(tree_text(tree)), tree)
            self.assertTrue(is_tree(web, read_tree(tree_text(tree))))
            self.assertTrue(is_paper(read_web(web_text(web)), read_tree(tree_text(tree)), paper_of(web, tree)))
            self.assertEqual(read_record(record_text(record)), record)
            made = tuple(event[:3] for event in record.events if event[0] != "over")
            self.exactly(read_moves(moves_text(made)), made)
            self.exactly(Reel(read_web(web_text(web)), read_moves(moves_text(made)), 9).stands(), 0)

    def test_by_the_desk(self):
        for web in whole_webs():
            desk = Desk()
            desk.tell("web a " + web_text(web).replace("\n", "|"))
            self.assertEqual(read_web(desk.tell("source a").replace("|", "\n")), web)
            desk.tell("tell r a 2 7 1 8")
            record = read_record(desk.tell("events r").replace("|", "\n"))
            self.assertEqual(record, recorded(web, (2, 7, 1, 8)))
            self.exactly(desk.tell("chain r"), str(longest_chain(record)))
            desk.tell("out a")
            made = desk.tell("done a")
            self.exactly(read_moves(made.replace("|", "\n")), tuple(run_by_moves(web, ())[0]))
            self.exactly(desk.tell("weight a"), str(weight_of(web, least_tree(web))))
            self.exactly(desk.tell("bounds a"), " ".join(str(number) for number in bounds(web)))
            self.exactly(desk.tell("tree a"), drawn_tree(web, least_tree(web)).replace("\n", "|"))


class EqualCalls(unittest.TestCase, Exactly):
    def test_equal_answers_and_what_is_passed_stays(self):
        for web in whole_webs()[::2]:
            choices = [4, 0, 9, 2, 7]
            made, glass = run_by_moves(web, choices)
            tree, record = least_tree(web), recorded(web, choices)
            calls = [
                (run_out, web, choices), (moves, web, glass), (marked, web, glass), (fragments, web, glass),
                (broken, web, glass),
                (drawn, web, glass), (drawn_marks, web, glass), (drawn_tree, web, tree), (better, web, tree),
                (web_text, web),
                (record_text, record), (moves_text, made), (tree_text, tree), (first_wrong, record), (bounds, web),
                (lambda web, made: Reel(web, made, 3).glass_there(), web, made)]
            for call, *things in calls:
                ahead = repr(things)
                self.exactly(call(*things), call(*things))
                self.exactly(repr(things), ahead)
            self.assertEqual(recorded(web, choices), record)
            nets = [Net(web), Net(web)]
            self.exactly([settle(net, 1000) for net in nets], [settle(Net(web), 1000)] * 2)
            self.exactly(nets[0].glass(), nets[1].glass())

    def test_a_web_is_not_changed_by_what_is_made_of_it(self):
        web = Web(3, THREE.ties)
        net, desk = Net(web), Desk()
        settle(net, 1000)
        desk.tell("web a " + web_text(web).replace("\n", "|"))
        desk.tell("out a")
        Reel(web, run_by_moves(web, ())[0], 2).seek(5)
        SavedHouse(web, 0, Disk()).deed(("wake",))
        self.assertEqual(web, THREE)
        self.exactly((web.many, web.ties), (3, THREE.ties))


class Objects(unittest.TestCase, Exactly):
    def each(self):
        web = Web(1, ())
        return [
            web, Record(web, ()), Wave(web, (), (0,)), Outgoing(), Incoming(), Disk(), Post(web, 0),
            SavedHouse(web, 0, Disk()),
            Net(web), Reel(web, (), 1), Desk()]

    def test_equal_to_nothing_of_another_class(self):
        things = self.each()
        for one, other in combinations(things, 2):
            self.assertFalse(one == other)
            self.assertFalse(other == one)
            self.assertTrue(one != other)
        for thing in things:
            for odd in odd_things():
                if type(odd) is not type(thing):
                    self.assertFalse(thing == odd)
                    self.assertFalse(odd == thing)
            self.assertTrue(thing == thing)

    def test_copies_are_of_the_same_class_and_go_on_apart(self):
        wave = Wave(THREE, least_tree(THREE), (1, 2, 3))
        reel = Reel(THREE, run_by_moves(THREE, ())[0], 2)
        disk, post, saved = Disk(), Post(THREE, 0), SavedHouse(THREE, 0, Disk())
        changes = [
            (wave, lambda it: it.want(0), lambda it: it.ways()),
            (Outgoing(), lambda it: it.put(()), lambda it: it.state()),
            (Incoming(), lambda it: it.take(0, ()), lambda it: it.state()),
            (disk, lambda it: it.write(()), lambda it: it.blocks()),
            (post, lambda it: it.deed(("wake",)), lambda it: it.past()),
            (reel, lambda it: it.seek(7), lambda it: it.stands()),
            (saved, lambda it: it.deed(("wake",)), lambda it: it.past())]
        for thing, change, told in changes:
            first, second = thing.copy(), thing.copy()
            self.assertIs(type(first), type(thing))
            ahead = told(thing)
            change(first)
            self.exactly((told(thing), told(second)), (ahead, ahead))
            self.assertNotEqual(told(first), ahead)
            change(thing)
            self.exactly((told(thing), told(second)), (told(first), ahead))

    def test_a_saved_house_is_told_by_its_past_as_a_post(self):
        saved = SavedHouse(THREE, 1, Disk())
        saved.deed(("wake",))
        post = post_of(THREE, 1, saved.past())
        self.assertIs(type(post), Post)
        self.exactly(post.letter(0), saved.letter(0))
        self.exactly(unsealed(post.letter(0))[0][0], "letter")


class Readme(unittest.TestCase):
    def test_its_examples_run(self):
        blocks = re.findall(r"```python\n(.*?)```", README.read_text(encoding="utf-8"), re.DOTALL)
        self.assertGreater(len(blocks), 4)
        names = {}
        for block in blocks:
            exec(compile(block, "README.md", "exec"), names)


if __name__ == "__main__":
    unittest.main()
