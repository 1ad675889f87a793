"""Mail between live houses: letters that come late, often, out of order, or never."""

from random import Random

from tests.orders import full_web, ring_web, row_web, star_web
from tests.slow import greater_webs, pairs_of, slow_least, small_webs
from tests.slow_glass import end_marks
from tests.slow_states import near
from leastroads.webs import Web


def mail_webs():
    """Webs of each shape: one house, two houses, rows, rings, all ties; weights alike and not."""
    shapes = [
        Web(1, ()), row_web([0]), row_web([5]), row_web([1, 2]), row_web([3, 3, 3]), row_web([2, 4, 1, 3]),
        star_web([1, 1, 1, 1]), ring_web([5, 7, 6]), ring_web([1, 1, 1]), ring_web([5, 1, 4, 2, 3, 0]),
        full_web(4, [1, 2, 3, 4, 5, 6]), full_web(4, [0] * 6), full_web(5, [7, 3, 9, 1, 4, 4, 0, 8, 2, 6])]
    return shapes + list(small_webs())[5::40] + list(greater_webs())[4::13]


def ways_of(web):
    return sorted((one, other) for one in range(web.many) for other in near(web, one))


def is_done(web, states):
    """Whether all houses are over, and just the least tree is marked at both ends of each tie."""
    glass = (tuple(states), ())
    least = slow_least(web)
    wanted = {pair: (("branch", "branch") if pair in least else None) for pair in pairs_of(web)}
    for pair, marks in wanted.items():
        told = end_marks(web, glass, pair)
        if marks is None and "branch" in told or marks is not None and told != marks:
            return False
    return all(state[0] == "over" for state in states)


class Mail:
    """Live houses beside slow ones, and a bag of letters between them."""

    def __init__(self, case, web, posts, slows, seed):
        self.case, self.web, self.posts, self.slows = case, web, posts, slows
        self.chance = Random(seed)
        self.bag = []

    def check(self, number):
        """All that can be asked of a house."""
        post, slow = self.posts[number], self.slows[number]
        self.case.exactly(post.past(), slow.past())
        self.case.exactly(post.state(), slow.state())

    def check_letters(self, number):
        for other in near(self.web, number):
            self.case.exactly(self.posts[number].letter(other), self.slows[number].letter(other))

    def wake(self, number):
        self.case.exactly(self.posts[number].deed(("wake",)), self.slows[number].deed(("wake",)))
        self.check(number)

    def write(self, one, other):
        letter = self.posts[one].letter(other)
        self.case.exactly(letter, self.slows[one].letter(other))
        self.bag.append((other, letter))

    def bring(self, at, stays):
        to, row = self.bag[at] if stays else self.bag.pop(at)
        told = self.posts[to].deed(("hear", row))
        self.case.exactly(told, self.slows[to].deed(("hear", row)))
        self.check(to)
        return told

    def asleep(self):
        return [number for number, post in enumerate(self.posts) if post.state()[0] == "asleep"]

    def is_over(self):
        waiting = [ends for post in self.posts for ends in post.past()[1] if ends[1]]
        return not waiting and all(post.state()[0] == "over" for post in self.posts)

    def step(self):
        """One thing by chance; what a house told of a letter, if it is one that came."""
        kind = self.chance.random()
        asleep = self.asleep()
        if asleep and (kind < 0.1 or self.web.many == 1):
            return self.wake(self.chance.choice(asleep))
        if kind < 0.5 and self.web.ties:
            return self.write(*self.chance.choice(ways_of(self.web)))
        if self.bag:
            at = self.chance.randrange(len(self.bag))
            if kind > 0.9:
                self.bag.pop(at)
                return None
            return self.bring(at, kind > 0.75)
        return None
