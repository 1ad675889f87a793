"""Waves: a house wants numbers of all houses, and gathers them over the tree."""

from leastroads.errors import NoValues, NoWay, Wanted
from leastroads.trees import require_tree, tied_in
from leastroads.ways import Ways
from leastroads.webs import require_house

LEAST_VALUE = -1000
GREATEST_VALUE = 1000


def is_value(thing):
    """Whether a thing is a value that a house may have."""
    if not isinstance(thing, int) or isinstance(thing, bool):
        return False
    return LEAST_VALUE <= thing <= GREATEST_VALUE


def are_values(web, thing):
    """Whether a thing is a tuple with a value for each house."""
    if not isinstance(thing, tuple) or len(thing) != web.many:
        return False
    return all([is_value(item) for item in thing])


def put_together(one, other):
    """What is gathered of two parts: how many houses, the sum, the least, the greatest."""
    return (one[0] + other[0], one[1] + other[1], min(one[2], other[2]), max(one[3], other[3]))


class Wave:
    """A tree of a web, the values of its houses, and the words between them."""

    def __init__(self, web, tree, values):
        require_tree(web, tree)
        if not are_values(web, values):
            raise NoValues()
        self.web = web
        self.tree = tree
        self.worths = values
        self.on_way = Ways()
        self.many_taken = 0
        # For each (root, house) that knows of the want: (back, how many are to come, gathered).
        self.tasks = {}
        self.answers = {}

    def want(self, house):
        """A house wants to know of all."""
        require_house(self.web, house)
        if (house, house) in self.tasks:
            raise Wanted()
        self.spread(house, house, None)

    def spread(self, root, house, back):
        """A house sends a want on over its ties of the tree, but that to back."""
        others = [other for other in tied_in(self.tree, house) if other != back]
        worth = self.worths[house]
        self.tasks[(root, house)] = (back, len(others), (1, worth, worth, worth))
        for other in others:
            self.on_way.put(house, other, ("want", root))
        self.close(root, house)

    def gather(self, root, house, told):
        """A house hears what is gathered beyond one of its ties."""
        back, left, gathered = self.tasks[(root, house)]
        self.tasks[(root, house)] = (back, left - 1, put_together(gathered, told))
        self.close(root, house)

    def close(self, root, house):
        """If nothing more is to come, a house tells what it gathered; the root has its answer."""
        back, left, gathered = self.tasks[(root, house)]
        if left > 0:
            return
        if back is None:
            self.answers[root] = gathered
        else:
            self.on_way.put(house, back, ("have", root) + gathered)

    def take(self, one, other):
        """The first word on its way from one house to another is heard; returns it."""
        require_house(self.web, one)
        require_house(self.web, other)
        if self.on_way.first(one, other) is None:
            raise NoWay()
        word = self.on_way.take(one, other)
        self.many_taken += 1
        if word[0] == "want":
            self.spread(word[1], other, one)
        else:
            self.gather(word[1], other, word[2:])
        return word

    def answer(self, house):
        """The answer of a house, None ahead of it."""
        require_house(self.web, house)
        return self.answers.get(house)

    def ways(self):
        """The ascending tuple of the triples (from, to, words)."""
        return self.on_way.triples()

    def taken(self):
        """How many words were taken."""
        return self.many_taken

    def copy(self):
        """Another Wave that goes on apart."""
        other = Wave(self.web, self.tree, self.worths)
        other.on_way = self.on_way.copy()
        other.many_taken = self.many_taken
        other.tasks = {pair: self.tasks[pair] for pair in self.tasks}
        other.answers = dict(self.answers)
        return other
