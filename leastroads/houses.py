"""A house while it does a deed: its state, laid out, and what it sends."""

from leastroads.webs import ties_of


class House:
    """A house of a web in a state; out gathers the pairs (house, word) that it sends."""

    def __init__(self, web, number, state):
        stage, level, core, marks, count, back, best, asked, waits = state
        self.ties = ties_of(web, number)
        self.stage = stage
        self.level = level
        self.core = core
        self.marks = {other: mark for other, mark in zip(self.ties, marks)}
        self.count = count
        self.back = back
        self.best = best
        self.asked = asked
        self.waits = list(waits)
        self.out = []

    def told(self):
        """The state that it is in."""
        marks = tuple([self.marks[other] for other in self.ties])
        links = (self.count, self.back, self.best, self.asked, tuple(self.waits))
        return (self.stage, self.level, self.core, marks) + links

    def send(self, other, word):
        """Sends a word to a neighbour."""
        self.out.append((other, word))

    def branches_but(self, one):
        """The neighbours over branch ties, but one of them, ascending."""
        return [other for other in self.ties if self.marks[other] == "branch" and other != one]

    def wakes(self):
        """It wakes: joins over its lightest tie, or is over if it has none."""
        if not self.ties:
            self.stage = "over"
            return
        other = min([(rank, other) for other, rank in self.ties.items()])[1]
        self.marks[other] = "branch"
        self.stage = "found"
        self.send(other, ("join", 0))

    def tries(self):
        """It asks over its lightest plain tie; without one it may report."""
        plain = [(rank, other) for other, rank in self.ties.items() if self.marks[other] == "plain"]
        if plain:
            self.asked = min(plain)[1]
            self.send(self.asked, ("ask", self.level, self.core))
        else:
            self.asked = None
            self.reports()

    def learns(self, found, other):
        """It hears of a tie that leads out, by way of a neighbour."""
        if self.best == () or found < self.best[0]:
            self.best = (found, other)

    def refuses(self, other):
        """A plain tie is refused; one that is branch stays so."""
        if self.marks[other] == "plain":
            self.marks[other] = "refused"

    def reports(self):
        """It tells the best that it knows of, if nothing more can come and it has not told it yet."""
        if self.count > 0 or self.asked is not None or self.stage != "seeks":
            return
        self.stage = "found"
        if self.back is not None:
            self.send(self.back, ("report", self.best[0] if self.best else ()))

    def turns(self):
        """The core turns towards the best tie; at this tie itself the house joins over it."""
        other = self.best[1]
        if self.marks[other] == "branch":
            self.send(other, ("turn",))
        else:
            self.send(other, ("join", self.level))
            self.marks[other] = "branch"

    def ends(self, one):
        """It is over, and tells so over all branch ties but that to one neighbour."""
        self.stage = "over"
        self.waits = []
        for other in self.branches_but(one):
            self.send(other, ("over",))
