"""Words, states and deeds of houses, reckoned slowly by the document's words alone.

Nothing here asks the package for more than a Web and its attributes.
"""

from tests.slow import slow_ranks

FIELDS = ("stage", "level", "core", "marks", "count", "back", "best", "asked", "waits")
SORTS = ("join", "begin", "ask", "yes", "no", "report", "turn", "over")


def near(web, house):
    """The neighbours of a house, ascending."""
    return [b if a == house else a for a, b, weight in web.ties if house in (a, b)]


def tie_rank(web, one, other):
    return slow_ranks(web)[tuple(sorted((one, other)))]


class SlowHouse:
    """A house in a state, whose parts are kept in a dict."""

    def __init__(self, web, house, state):
        self.web = web
        self.house = house
        self.near = sorted(near(web, house))
        self.parts = dict(zip(FIELDS, state))
        self.parts["marks"] = dict(zip(self.near, state[3]))
        self.parts["waits"] = list(state[8])
        self.out = []

    def pair(self):
        parts = dict(self.parts)
        parts["marks"] = tuple(parts["marks"][other] for other in self.near)
        parts["waits"] = tuple(parts["waits"])
        return tuple(parts[field] for field in FIELDS), tuple(self.out)

    def rank(self, other):
        return tie_rank(self.web, self.house, other)

    def marked(self, mark):
        return [other for other in self.near if self.parts["marks"][other] == mark]

    def wake(self):
        if self.near:
            lightest = sorted(self.near, key=self.rank)[0]
            self.parts["marks"][lightest] = "branch"
            self.parts["stage"] = "found"
            self.out.append((lightest, ("join", 0)))
        else:
            self.parts["stage"] = "over"

    def is_none(self, sender, word):
        parts, sort = self.parts, word[0]
        reasons = [
            sender not in self.near,
            parts["stage"] == "over",
            sort == "join" and sender in self.marked("refused"),
            sort in ("begin", "report", "turn", "over") and sender not in self.marked("branch"),
            sort == "turn" and parts["best"] == (),
            sort in ("yes", "no") and parts["asked"] != sender,
            sort in ("report", "turn", "over") and parts["stage"] == "asleep",
        ]
        return any(reasons)

    def waits(self, sender, word):
        parts, sort = self.parts, word[0]
        if sort == "join":
            return not word[1] < parts["level"] and sender in self.marked("plain")
        if sort == "ask":
            return word[1] > parts["level"]
        if sort == "report":
            return sender == parts["back"] and parts["stage"] == "seeks"
        return False

    def hear(self, sender, word):
        if self.parts["stage"] == "asleep" and word[0] in ("join", "ask"):
            self.wake()
        if self.waits(sender, word):
            self.parts["waits"].append((sender, word))
            return
        self.do(sender, word)
        again = True
        while again and self.parts["stage"] != "over":
            again = False
            for at, (other, waiting) in enumerate(self.parts["waits"]):
                if not self.waits(other, waiting):
                    del self.parts["waits"][at]
                    self.do(other, waiting)
                    again = True
                    break
        if self.parts["stage"] == "over":
            self.parts["waits"] = []

    def do(self, sender, word):
        getattr(self, "do_" + word[0])(sender, *word[1:])

    def do_join(self, sender, level):
        parts = self.parts
        if level < parts["level"]:
            parts["marks"][sender] = "branch"
            finds = int(parts["stage"] == "seeks")
            self.out.append((sender, ("begin", parts["level"], parts["core"], finds)))
            if parts["stage"] == "seeks":
                parts["count"] += 1
        elif parts["marks"][sender] == "branch":
            self.out.append((sender, ("begin", min(9, parts["level"] + 1), self.rank(sender), 1)))

    def do_begin(self, sender, level, core, finds):
        others = [other for other in self.marked("branch") if other != sender]
        self.parts.update(
            level=level, core=core, stage=("found", "seeks")[finds], back=sender, best=(),
            count=len(others) * finds, asked=None)
        self.out += [(other, ("begin", level, core, finds)) for other in others]
        if finds == 1:
            self.attempt()

    def attempt(self):
        self.parts["asked"] = None
        plain = sorted(self.marked("plain"), key=self.rank)
        if plain:
            self.parts["asked"] = plain[0]
            self.out.append((plain[0], ("ask", self.parts["level"], self.parts["core"])))
        else:
            self.report()

    def do_ask(self, sender, level, core):
        if core != self.parts["core"]:
            self.out.append((sender, ("yes",)))
            return
        if self.parts["marks"][sender] == "plain":
            self.parts["marks"][sender] = "refused"
        if self.parts["asked"] == sender:
            self.attempt()
        else:
            self.out.append((sender, ("no",)))

    def better(self, found, sender):
        if self.parts["best"] == () or self.parts["best"][0] > found:
            self.parts["best"] = (found, sender)

    def do_yes(self, sender):
        self.parts["asked"] = None
        self.better(self.rank(sender), sender)
        self.report()

    def do_no(self, sender):
        if self.parts["marks"][sender] == "plain":
            self.parts["marks"][sender] = "refused"
        self.attempt()

    def report(self):
        parts = self.parts
        if parts["count"] == 0 and parts["asked"] is None and parts["stage"] == "seeks":
            parts["stage"] = "found"
            if parts["back"] is not None:
                found = parts["best"][0] if parts["best"] != () else ()
                self.out.append((parts["back"], ("report", found)))

    def do_report(self, sender, found):
        parts = self.parts
        if sender != parts["back"]:
            parts["count"] = max(parts["count"] - 1, 0)
            if found != ():
                self.better(found, sender)
            self.report()
        elif parts["best"] != ():
            if found == () or found > parts["best"][0]:
                self.turn()
        elif found == ():
            self.do_over(parts["back"])

    def turn(self):
        other = self.parts["best"][1]
        if self.parts["marks"][other] == "branch":
            self.out.append((other, ("turn",)))
        else:
            self.out.append((other, ("join", self.parts["level"])))
            self.parts["marks"][other] = "branch"

    def do_turn(self, sender):
        if self.parts["best"] != ():
            self.turn()

    def do_over(self, sender):
        self.parts["stage"] = "over"
        self.out += [(other, ("over",)) for other in self.marked("branch") if other != sender]


def slow_heard(web, house, state, sender, word):
    """What heard tells, None where it is a NoWord; all things are right by their form."""
    slow = SlowHouse(web, house, state)
    if slow.is_none(sender, word):
        return None
    slow.hear(sender, word)
    return slow.pair()


def slow_woken(web, house, state):
    slow = SlowHouse(web, house, state)
    slow.wake()
    return slow.pair()


def rank_by_chance(chance, web):
    a, b, weight = chance.choice(web.ties)
    return (weight, a, b)


def word_by_chance(chance, web):
    """Any word of a web with a tie."""
    level, core = chance.randrange(4) if chance.random() < 0.9 else 9, rank_by_chance(chance, web)
    return chance.choice((
        ("join", level), ("begin", level, core, chance.randrange(2)), ("ask", level, core), ("yes",),
        ("no",), ("report", chance.choice(((), core))), ("turn",), ("over",)))


def state_by_chance(chance, web, house, stages=("asleep", "found", "seeks", "seeks", "over")):
    """Any state of a house that has a neighbour, also such as never come."""
    others = near(web, house)
    best = () if chance.random() < 0.4 else (rank_by_chance(chance, web), chance.choice(others))
    return (
        chance.choice(stages), chance.randrange(4) if chance.random() < 0.9 else 9,
        () if chance.random() < 0.2 else rank_by_chance(chance, web),
        tuple(chance.choice(("plain", "branch", "refused")) for _ in others), chance.randrange(3),
        chance.choice(others + [None]), best, chance.choice(others + [None]),
        tuple(
            (chance.choice(others), word_by_chance(chance, web))
            for _ in range(chance.choice((0, 0, 1, 2, 4)))))
