"""Words on their way between houses, those of each way in order."""


class Ways:
    """What is on its way from house to house, under the pairs (from, to)."""

    def __init__(self):
        self.queues = {}

    def put(self, one, other, word):
        """A word more is on its way, behind the others."""
        self.queues[(one, other)] = self.queues.get((one, other), []) + [word]

    def first(self, one, other):
        """The first word on its way, None if there is none."""
        queue = self.queues.get((one, other), [None])
        return queue[0]

    def take(self, one, other):
        """Takes the first word off its way, and returns it."""
        queue = self.queues[(one, other)]
        # A way without words is none: it would stand in a glass otherwise.
        if len(queue) == 1:
            del self.queues[(one, other)]
        else:
            self.queues[(one, other)] = queue[1:]
        return queue[0]

    def pairs(self):
        """The pairs (from, to) between which words are on their way, ascending."""
        return sorted(self.queues)

    def triples(self):
        """The ascending tuple of the triples (from, to, words)."""
        return tuple([pair + (tuple(self.queues[pair]),) for pair in self.pairs()])

    def copy(self):
        """The same ways, which go on apart."""
        return ways_of(self.triples())


def ways_of(triples):
    """The ways of the triples (from, to, words)."""
    ways = Ways()
    ways.queues = {(one, other): list(words) for one, other, words in triples}
    return ways
