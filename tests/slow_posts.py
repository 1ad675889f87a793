"""Live houses with their links, reckoned slowly by the document's words alone.

Each link keeps all that was ever put, and all that was ever heard, under its numbers.
"""

from leastroads.rows import sealed, unsealed
from leastroads.states import is_state
from tests.slow_glass import slow_first
from tests.slow_states import near, slow_heard, slow_woken, tie_rank
from tests.slow_texts import slow_web_text

LIMIT = 2 ** 32
SORTS = {"join": "l", "begin": "lcf", "ask": "lc", "yes": "", "no": "", "report": "r", "turn": "", "over": ""}


class Refused(Exception):
    """What the document calls NoDeed."""


def slow_number(thing):
    return type(thing) is int and thing >= 0


def slow_rank(web, thing):
    ranks = [tie_rank(web, a, b) for a, b, weight in web.ties]
    return type(thing) is tuple and repr(thing) in [repr(rank) for rank in ranks]


def slow_word(web, thing):
    """Whether a thing is a word by its form."""
    if type(thing) is not tuple or not thing or type(thing[0]) is not str or thing[0] not in SORTS:
        return False
    form = SORTS[thing[0]]
    if len(form) != len(thing) - 1:
        return False
    tests = {
        "l": lambda part: slow_number(part) and part < 10, "c": lambda part: slow_rank(web, part),
        "f": lambda part: slow_number(part) and part < 2, "r": lambda part: part == () or slow_rank(web, part)}
    return all(tests[letter](part) for letter, part in zip(form, thing[1:]))


def is_slow_row(thing):
    return type(thing) is tuple and all(slow_number(byte) and byte < 256 for byte in thing)


class SlowPost:
    def __init__(self, web, number):
        self.web, self.number, self.near = web, number, near(web, number)
        self.now = slow_first(web)[0][number]
        self.put = {other: {} for other in self.near}
        self.many_put = dict.fromkeys(self.near, 0)
        self.known = dict.fromkeys(self.near, 0)
        self.got = {other: {} for other in self.near}
        self.taken = dict.fromkeys(self.near, 0)

    def state(self):
        return self.now

    def waiting(self, other):
        return [(at, self.put[other][at]) for at in range(self.known[other], self.many_put[other])]

    def held(self, other):
        return tuple((at, word) for at, word in sorted(self.got[other].items()) if at >= self.taken[other])

    def past(self):
        outs = [(self.known[other], tuple(word for _, word in self.waiting(other))) for other in self.near]
        ins = [(self.taken[other], self.held(other)) for other in self.near]
        return (self.now, tuple(outs), tuple(ins))

    def go_on_from(self, past):
        """Takes a past for its own."""
        self.now, outs, ins = past
        for other, (known, words), (taken, held) in zip(self.near, outs, ins):
            self.known[other], self.many_put[other] = known, known + len(words)
            self.put[other] = dict(enumerate(words, known))
            self.taken[other], self.got[other] = taken, dict(held)

    def copy(self):
        twin = SlowPost(self.web, self.number)
        twin.go_on_from(self.past())
        return twin

    def letter_parcel(self, to):
        return ("letter", self.number, to, self.taken[to], tuple(self.waiting(to)[:20]))

    def letter(self, to):
        return sealed(self.letter_parcel(to))

    def send(self, out):
        for other, word in out:
            self.put[other][self.many_put[other]] = word
            self.many_put[other] += 1

    def deed(self, thing):
        if type(thing) is tuple and thing == ("wake",):
            if self.now[0] != "asleep":
                raise Refused
            self.now, out = slow_woken(self.web, self.number, self.now)
            self.send(out)
            return None
        if type(thing) is not tuple or len(thing) != 2 or thing[0] != "hear" or not is_slow_row(thing[1]):
            raise Refused
        read = unsealed(thing[1])
        if not read or not self.is_letter(read[0]):
            return "none"
        return self.hear(*read[0][1:])

    def is_letter(self, letter):
        if type(letter) is not tuple or len(letter) != 5 or letter[0] != "letter":
            return False
        _, sender, to, taken, items = letter
        if not slow_number(sender) or sender not in self.near or not slow_number(to) or to != self.number:
            return False
        if not slow_number(taken) or taken > self.many_put[sender] or type(items) is not tuple or len(items) > 20:
            return False
        pairs = [item for item in items if type(item) is tuple and len(item) == 2]
        return len(pairs) == len(items) and all(
            slow_number(at) and at < LIMIT and slow_word(self.web, word) for at, word in pairs)

    def hear(self, sender, to, taken, items):
        """Hears a letter on a copy, whose past it takes unless a word is none then."""
        twin = self.copy()
        twin.known[sender] = max(twin.known[sender], taken)
        for at, word in items:
            if twin.taken[sender] <= at < twin.taken[sender] + 1000:
                twin.got[sender].setdefault(at, word)
            while twin.taken[sender] in twin.got[sender]:
                told = slow_heard(self.web, to, twin.now, sender, twin.got[sender][twin.taken[sender]])
                if told is None:
                    return "none"
                twin.now = told[0]
                twin.send(told[1])
                twin.taken[sender] += 1
        if twin.past() == self.past():
            return "old"
        self.go_on_from(twin.past())
        return "new"


def slow_mark(row):
    found = 1
    for byte in row:
        found = (1000003 * found + byte + 1) % (2 ** 61 - 1)
    return found


def slow_first_block(web, number):
    return sealed(("house", slow_mark(tuple(map(ord, slow_web_text(web)))), number))


def slow_is_past(web, number, thing):
    """Whether what was read from a block is a past, by its form; the state is judged by the package."""
    if type(thing) is not tuple or len(thing) != 3 or not is_state(web, number, thing[0]):
        return False
    many = len(near(web, number))
    for ends in thing[1:]:
        if type(ends) is not tuple or len(ends) != many:
            return False
        for end in ends:
            if type(end) is not tuple or len(end) != 2 or not slow_number(end[0]) or end[0] >= LIMIT:
                return False
            if type(end[1]) is not tuple:
                return False
    if not all(slow_word(web, word) for end in thing[1] for word in end[1]):
        return False
    return all(slow_held(web, taken, held) for taken, held in thing[2])


def slow_held(web, taken, held):
    if not all(type(pair) is tuple and len(pair) == 2 and slow_number(pair[0]) for pair in held):
        return False
    numbers = [number for number, word in held]
    if numbers != sorted(set(numbers)) or not all(taken < number < taken + 1000 for number in numbers):
        return False
    return all(slow_word(web, word) for number, word in held)


class OtherDisk(Exception):
    """What the document calls OtherHouse."""


def read_one(block):
    """What a block is sealed of, in a list that is empty if it is of nothing."""
    return list(unsealed(block))


class SlowSaved:
    """A live house, its blocks, and how many of them do not wait."""

    def __init__(self, web, number, blocks=()):
        self.web, self.number = web, number
        first = slow_first_block(web, number)
        self.blocks = self.blocks_with(first, list(blocks))
        self.post = SlowPost(web, number)
        for at, block in enumerate(self.blocks[1:], 1):
            if not self.goes_on_by(read_one(block)):
                del self.blocks[at:]
                break
        self.synced = len(self.blocks)

    def blocks_with(self, first, blocks):
        if blocks[:1] == [first]:
            return blocks
        told = read_one(blocks[0]) if blocks else []
        if told and type(told[0]) is tuple and len(told[0]) == 3 and told[0][0] == "house":
            raise OtherDisk
        return [first]

    def goes_on_by(self, told):
        """Whether what a block tells can come there; it is gone on from it, or it is done."""
        if not told or type(told[0]) is not tuple or len(told[0]) != 2 or told[0][0] not in ("past", "deed"):
            return False
        kind, thing = told[0]
        if kind == "past":
            if slow_is_past(self.web, self.number, thing):
                self.post.go_on_from(thing)
                return True
            return False
        ahead = self.post.past()
        try:
            self.post.deed(thing)
        except Refused:
            return False
        return self.post.past() != ahead

    def past(self):
        return self.post.past()

    def state(self):
        return self.post.state()

    def deed(self, thing):
        ahead = self.past()
        told = self.post.deed(thing)
        if self.past() != ahead:
            self.blocks.append(sealed(("deed", thing)))
        return told

    def letter(self, to):
        self.synced = len(self.blocks)
        return self.post.letter(to)

    def keep(self):
        self.blocks.append(sealed(("past", self.past())))
        self.synced = len(self.blocks)
        return self.synced

    def waiting(self):
        return self.blocks[self.synced:]

    def cut(self, kept):
        """The house that is made anew when so much is left of the blocks that wait."""
        left = [block[:many] for block, many in zip(self.waiting(), kept)]
        return SlowSaved(self.web, self.number, self.blocks[:self.synced] + left)

    def copy(self):
        twin = SlowSaved(self.web, self.number)
        twin.post, twin.blocks, twin.synced = self.post.copy(), list(self.blocks), self.synced
        return twin
