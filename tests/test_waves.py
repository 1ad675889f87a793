"""Waves: wants and haves over a tree, answers, ways, how many words are taken, copies."""

import unittest
from itertools import product
from random import Random

from leastroads.errors import NoHouse, NoTree, NoValues, NoWay, Wanted
from leastroads.trees import least_tree
from leastroads.waves import Wave
from leastroads.webs import Web
from tests.orders import full_web, named_webs, run_webs
from tests.slow import slow_trees, small_webs
from tests.things import Exactly, odd_things

THREE = Web(3, ((0, 1, 5), (0, 2, 7), (1, 2, 6)))
TREE = ((0, 1), (1, 2))
VALUES = (4, -1, 6)
ONE = Web(1, ())
STAR = ((0, 1), (0, 2), (0, 3))
FOUR = full_web(4, [1, 2, 3, 4, 5, 6])


class SlowWave:
    """A wave in which each house keeps all that it sent and heard."""

    def __init__(self, web, tree, values):
        self.tree, self.values = tree, values
        self.queues, self.back, self.asked, self.haves, self.told = {}, {}, {}, {}, {}
        self.taken = 0

    def want(self, house):
        self.start(house, house, None)

    def start(self, root, house, back):
        beyond = {b if a == house else a for a, b in self.tree if house in (a, b)} - {back}
        self.back[root, house], self.asked[root, house], self.haves[root, house] = back, beyond, []
        for other in sorted(beyond):
            self.queues.setdefault((house, other), []).append(("want", root))
        self.maybe_tell(root, house)

    def maybe_tell(self, root, house):
        haves = self.haves[root, house]
        if len(haves) < len(self.asked[root, house]):
            return
        value = self.values[house]
        many, total, least, most = zip((1, value, value, value), *haves)
        gathered = (sum(many), sum(total), min(least), max(most))
        if self.back[root, house] is None:
            self.told[house] = gathered
        else:
            self.queues.setdefault((house, self.back[root, house]), []).append(("have", root) + gathered)

    def take(self, one, other):
        word = self.queues[one, other].pop(0)
        self.taken += 1
        if word[0] == "want":
            self.start(word[1], other, one)
        else:
            self.haves[word[1], other].append(word[2:])
            self.maybe_tell(word[1], other)
        return word

    def ways(self):
        return tuple(sorted(pair + (tuple(words),) for pair, words in self.queues.items() if words))


def told(wave, many):
    return (wave.ways(), wave.taken(), [wave.answer(house) for house in range(many)])


def values_by_chance(chance, many):
    return tuple(chance.choice((-1000, 1000, 0, chance.randrange(-1000, 1001))) for _ in range(many))


class Example(unittest.TestCase, Exactly):
    def test_the_example(self):
        wave = Wave(THREE, TREE, VALUES)
        self.exactly(wave.want(0), None)
        self.exactly(wave.ways(), ((0, 1, (("want", 0),)),))
        self.exactly(wave.take(0, 1), ("want", 0))
        self.exactly(wave.take(1, 2), ("want", 0))
        self.exactly(wave.take(2, 1), ("have", 0, 1, 6, 6, 6))
        self.exactly(wave.answer(0), None)
        self.exactly(wave.take(1, 0), ("have", 0, 2, 5, -1, 6))
        self.exactly(wave.answer(0), (3, 9, -1, 6))
        self.exactly(wave.ways(), ())
        self.exactly(wave.taken(), 4)
        self.exactly([wave.answer(1), wave.answer(2)], [None, None])

    def test_a_lone_house_has_its_answer_at_once(self):
        for value in (-1000, 0, 7, 1000):
            wave = Wave(ONE, (), (value,))
            self.exactly(wave.answer(0), None)
            wave.want(0)
            self.exactly(wave.answer(0), (1, value, value, value))
            self.exactly((wave.ways(), wave.taken()), ((), 0))
            self.refused(Wanted, wave.want, 0)

    def test_want_goes_out_by_neighbours_and_have_waits_for_all(self):
        wave = Wave(FOUR, STAR, (1, 2, 3, 4))
        wave.want(2)
        self.exactly(wave.take(2, 0), ("want", 2))
        self.exactly(wave.ways(), ((0, 1, (("want", 2),)), (0, 3, (("want", 2),))))
        wave.take(0, 3)
        self.exactly(wave.take(3, 0), ("have", 2, 1, 4, 4, 4))
        self.exactly(wave.ways(), ((0, 1, (("want", 2),)),))
        wave.take(0, 1)
        wave.take(1, 0)
        self.exactly(wave.take(0, 2), ("have", 2, 3, 7, 1, 4))
        self.exactly(wave.answer(2), (4, 10, 1, 4))

    def test_words_of_several_roots_on_one_way_come_in_order(self):
        wave = Wave(THREE, TREE, VALUES)
        wave.want(1)
        wave.want(0)
        wave.take(0, 1)
        self.exactly(wave.ways(), ((1, 0, (("want", 1),)), (1, 2, (("want", 1), ("want", 0)))))
        self.exactly([wave.take(1, 2), wave.take(1, 2)], [("want", 1), ("want", 0)])
        self.exactly(wave.ways()[-1], (2, 1, (("have", 1, 1, 6, 6, 6), ("have", 0, 1, 6, 6, 6))))


class WholeWaves(unittest.TestCase, Exactly):
    def run_through(self, web, tree, values, roots, chance):
        """Wants and takes by chance, each moment being compared with a slow reckoning."""
        wave, slow = Wave(web, tree, values), SlowWave(web, tree, values)
        left = list(roots)
        while left or wave.ways():
            if left and (not wave.ways() or chance.random() < 0.3):
                root = left.pop()
                self.exactly(wave.want(root), None)
                slow.want(root)
            else:
                one, other, words = chance.choice(wave.ways())
                self.exactly(wave.take(one, other), words[0])
                slow.take(one, other)
            wanted = [slow.told.get(house) for house in range(web.many)]
            self.exactly(told(wave, web.many), (slow.ways(), slow.taken, wanted))
        self.exactly(wave.taken(), len(roots) * (2 * web.many - 2))
        for house in range(web.many):
            whole = (web.many, sum(values), min(values), max(values))
            self.exactly(wave.answer(house), whole if house in roots else None)

    def test_one_want(self):
        chance = Random(1)
        for web in run_webs():
            for _ in range(3):
                values = values_by_chance(chance, web.many)
                self.run_through(web, least_tree(web), values, [chance.randrange(web.many)], chance)

    def test_several_at_once(self):
        chance = Random(2)
        for web in run_webs():
            roots = [house for house in range(web.many) if chance.random() < 0.7]
            chance.shuffle(roots)
            self.run_through(web, least_tree(web), values_by_chance(chance, web.many), roots, chance)
            self.run_through(
                web, least_tree(web), values_by_chance(chance, web.many), list(range(web.many)), chance)

    def test_any_tree_of_a_web(self):
        chance = Random(3)
        for web in list(small_webs())[::11]:
            for tree in slow_trees(web):
                roots = chance.sample(range(web.many), min(2, web.many))
                self.run_through(web, tree, values_by_chance(chance, web.many), roots, chance)

    def test_the_greatest_sums(self):
        chance = Random(4)
        for web in named_webs():
            for value in (-1000, 1000):
                self.run_through(web, least_tree(web), (value,) * web.many, [0], chance)


class Copies(unittest.TestCase, Exactly):
    def test_they_go_on_apart(self):
        wave = Wave(THREE, TREE, VALUES)
        wave.want(0)
        wave.take(0, 1)
        other = wave.copy()
        self.assertIs(type(other), Wave)
        ahead = told(wave, 3)
        self.exactly(told(other, 3), ahead)
        other.want(2)
        other.take(1, 2)
        other.take(2, 1)
        other.take(2, 1)
        other.take(1, 0)
        self.exactly(other.answer(0), None)
        other.take(1, 0)
        self.exactly(told(wave, 3), ahead)
        behind = told(other, 3)
        wave.take(1, 2)
        wave.take(2, 1)
        wave.take(1, 0)
        self.exactly(wave.answer(0), (3, 9, -1, 6))
        self.exactly(told(other, 3), behind)
        self.refused(Wanted, other.want, 2)
        wave.want(2)

    def test_at_each_moment(self):
        chance = Random(5)
        for web in list(named_webs())[:12]:
            wave = Wave(web, least_tree(web), values_by_chance(chance, web.many))
            for root in range(web.many):
                wave.want(root)
            while wave.ways():
                one, other, _ = chance.choice(wave.ways())
                twin = wave.copy()
                self.exactly(told(twin, web.many), told(wave, web.many))
                ahead = told(wave, web.many)
                word = twin.take(one, other)
                self.exactly(told(wave, web.many), ahead)
                self.exactly(wave.take(one, other), word)
                self.exactly(told(twin, web.many), told(wave, web.many))

    def test_equal_to_nothing_of_another_kind(self):
        for thing in odd_things():
            if not isinstance(thing, Wave):
                self.assertFalse(Wave(THREE, TREE, VALUES) == thing)


class Refusals(unittest.TestCase, Exactly):
    def test_no_tree(self):
        for thing in odd_things() + [((0, 1),), ((0, 1), (0, 2), (1, 2)), list(TREE), ((1, 2), (0, 1))]:
            for values in (VALUES, None, (1, 2)):
                self.refused(NoTree, Wave, THREE, thing, values)

    def test_no_values(self):
        for thing in odd_things() + [(), (1,), (1, 2), (1, 2, 3, 4), [1, 2, 3], {0: 1, 1: 2, 2: 3}, "123"]:
            self.refused(NoValues, Wave, THREE, TREE, thing)

    def test_a_thing_in_the_place_of_a_value(self):
        for thing in odd_things() + [1001, -1001, True, False, None, "1"]:
            if thing != -1 or isinstance(thing, bool):
                for at in range(3):
                    self.refused(NoValues, Wave, THREE, TREE, VALUES[:at] + (thing,) + VALUES[at + 1:])

    def test_the_edges_of_values(self):
        for values in product((-1000, -999, 0, 999, 1000), repeat=3):
            Wave(THREE, TREE, values)

    def test_houses(self):
        for thing in odd_things() + [3, True, False, (0,), "0"]:
            wave = Wave(THREE, TREE, VALUES)
            wave.want(0)
            ahead = told(wave, 3)
            self.refused(NoHouse, wave.want, thing)
            self.refused(NoHouse, wave.answer, thing)
            self.refused(NoHouse, wave.take, thing, 1)
            self.refused(NoHouse, wave.take, 0, thing)
            self.refused(NoHouse, wave.take, thing, thing)
            self.exactly(told(wave, 3), ahead)

    def test_wanted(self):
        wave = Wave(THREE, TREE, VALUES)
        wave.want(0)
        for one, other in ((0, 1), (1, 2), (2, 1), (1, 0)):
            ahead = told(wave, 3)
            self.refused(Wanted, wave.want, 0)
            self.exactly(told(wave, 3), ahead)
            wave.take(one, other)
        self.refused(Wanted, wave.want, 0)
        # One that passed another's want on did not want itself.
        wave.want(1)
        wave.want(2)

    def test_no_way(self):
        wave = Wave(THREE, TREE, VALUES)
        for one, other in product(range(3), repeat=2):
            self.refused(NoWay, wave.take, one, other)
        wave.want(0)
        ahead = told(wave, 3)
        for one, other in product(range(3), repeat=2):
            if (one, other) != (0, 1):
                self.refused(NoWay, wave.take, one, other)
        self.exactly(told(wave, 3), ahead)
        wave.take(0, 1)
        self.refused(NoWay, wave.take, 0, 1)
        self.refused(NoHouse, wave.take, 0, 3)

    def test_nothing_that_is_passed_is_changed(self):
        Wave(THREE, TREE, VALUES).want(0)
        self.assertEqual((TREE, VALUES, THREE.ties), (((0, 1), (1, 2)), (4, -1, 6), ((0, 1, 5), (0, 2, 7), (1, 2, 6))))


if __name__ == "__main__":
    unittest.main()
