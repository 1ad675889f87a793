"""The desk: each form of line and its answer, errors and their order, whole talks, lines of no form."""

import unittest
from random import Random

from leastroads.desks import Desk
from leastroads.errors import BadRecord, BadText, BadWeb, NoHouse, NoLine, NoMove, NoName, RoadError
from leastroads.records import Record, recorded
from leastroads.texts import record_text, web_text
from leastroads.webs import Web
from tests.orders import full_web, ring_web, row_web
from tests.slow_desks import SlowDesk
from tests.things import Exactly, odd_things

THREE = Web(3, ((0, 1, 5), (0, 2, 7), (1, 2, 6)))
SOURCE = "houses 3|tie 0 1 5|tie 0 2 7|tie 1 2 6|"
FIGURES = "98765432109876543210"
OF_WEBS = ("out", "source", "done", "next", "view", "marks", "tree", "steps", "marked", "lots", "broken", "weight",
    "bounds")
OF_RECORDS = ("events", "wrong", "chain")
# Each form of line, right but for the names.
FORMS = ["web a " + SOURCE, "record r " + SOURCE + "wake 0|", "tell r a", "tell r a 0 12 7", "wake a 1", "take a 0 1",
         "back a 0", "state a 0", "seen r 0"] + [word + " a" for word in OF_WEBS] + [word + " r" for word in OF_RECORDS]


def desk_with_all(kind=Desk):
    """A desk with a web on which a move was made, and a record."""
    desk = kind()
    for line in ("web a " + SOURCE, "wake a 0", "tell r a 2 1", "web two houses 2|tie 0 1 5|"):
        desk.tell(line)
    return desk


def all_told(desk, webs=("a", "two"), records=("r",)):
    """All answers about what is kept, which change nothing."""
    lines = [f"{word} {name}" for word in OF_WEBS[1:] for name in webs]
    lines += [f"{word} {name}" for word in OF_RECORDS for name in records]
    return [desk.tell(line) for line in lines]


def outcome(desk, line):
    """What a desk returns, or the class and the fields of its error."""
    try:
        return desk.tell(line)
    except RoadError as error:
        return (type(error).__name__, vars(error))


class Answers(unittest.TestCase, Exactly):
    def told(self, desk, *pairs):
        for line, answer in pairs:
            self.exactly(desk.tell(line), answer)

    def test_by_hand(self):
        desk = Desk()
        self.told(
            desk, ("web a " + SOURCE, "ok"), ("source a", SOURCE), ("done a", "none"), ("steps a", "0"),
            ("next a", "wake 0|wake 1|wake 2|"), ("marked a", "none"), ("lots a", "0 1 2"), ("broken a", "none"),
            ("state a 0", "asleep 0"), ("weight a", "11"), ("bounds a", "3 3 6 0 3 3 1"),
            ("tree a", "0|  1 5|    2 6|"), ("marks a", "o--|-o-|--o|"),
            ("view a", "0 asleep 0 - 0 - - -|1 asleep 0 - 0 - - -|2 asleep 0 - 0 - - -|"), ("wake a 0", "ok"),
            ("done a", "wake 0|"), ("steps a", "1"), ("next a", "take 0 1|wake 1|wake 2|"), ("marked a", "0-1"),
            ("state a 0", "found 0"), ("marks a", "o+-|-o-|--o|"),
            ("view a", "0 found 0 - 0 - - -|1 asleep 0 - 0 - - -|2 asleep 0 - 0 - - -|0>1 join,0|"),
            ("take a 0 1", "ok"), ("done a", "wake 0|take 0 1|"), ("lots a", "0,1 2"), ("back a 1", "ok"),
            ("done a", "wake 0|"), ("next a", "take 0 1|wake 1|wake 2|"), ("back a 7", "ok"), ("done a", "none"),
            ("out a", "ok"), ("next a", "none"), ("marked a", "0-1 1-2"), ("lots a", "0,1,2"), ("state a 2", "over 1"),
            ("marks a", "o+x|+o+|x+o|"), ("steps a", "15"), ("broken a", "none"), ("out a", "ok"), ("steps a", "15"))

    def test_records_by_hand(self):
        desk = Desk()
        text = SOURCE + "wake 0|wake 0|take 0 1 join 0|over 2|"
        self.told(
            desk, ("record r " + text, "ok"), ("events r", text), ("wrong r", "1 awake"), ("chain r", "1"),
            ("seen r 0", "1"), ("seen r 1", "0"), ("web a houses 1|", "ok"), ("tell r a", "ok"),
            ("events r", "houses 1|wake 0|over 0|"), ("wrong r", "none"), ("chain r", "2"), ("seen r 0", "2"),
            ("record r houses 1|", "ok"), ("chain r", "0"), ("wrong r", "none"), ("seen r 0", "0"),
            ("record r " + SOURCE + "take 1 0 yes|", "ok"), ("wrong r", "0 empty"),
            ("record r " + SOURCE + "over 1|over 1|", "ok"), ("wrong r", "0 early"), ("seen r 1", "2"),
            ("chain r", "2"))

    def test_runs_of_choices(self):
        desk = Desk()
        desk.tell("web a " + SOURCE)
        for choices in ([], [0], [2, 0, 1], [5, 99, 10 ** 20 - 1, 0, 7], list(range(40))):
            desk.tell(" ".join(["tell r a"] + [str(choice) for choice in choices]))
            self.exactly(desk.tell("events r"), record_text(recorded(THREE, choices)).replace("\n", "|"))
        # The moves made on the web count for nothing, and stay.
        desk.tell("wake a 2")
        desk.tell("tell r a")
        self.exactly(desk.tell("events r"), record_text(recorded(THREE, ())).replace("\n", "|"))
        self.exactly(desk.tell("done a"), "wake 2|")

    def test_webs_and_records_have_names_of_their_own(self):
        desk = Desk()
        self.told(
            desk, ("web same " + SOURCE, "ok"), ("record same houses 1|wake 0|", "ok"), ("wake same 0", "ok"),
            ("events same", "houses 1|wake 0|"), ("source same", SOURCE), ("done same", "wake 0|"),
            ("tell same same", "ok"), ("steps same", "1"), ("record same houses 1|", "ok"), ("source same", SOURCE),
            ("seen same 0", "0"))

    def test_a_web_kept_again_has_no_moves(self):
        desk = Desk()
        self.told(
            desk, ("web a " + SOURCE, "ok"), ("out a", "ok"), ("tell r a", "ok"), ("web a " + SOURCE, "ok"),
            ("done a", "none"), ("steps a", "0"), ("state a 0", "asleep 0"), ("web a houses 1|", "ok"),
            ("lots a", "0"), ("wrong r", "none"))

    def test_names(self):
        desk = Desk()
        for name in ("a", "z", "abcdefgh", "web", "record", "tell", "none", "zzzzzzzz"):
            self.told(desk, (f"web {name} houses 1|", "ok"), (f"wake {name} 0", "ok"), (f"steps {name}", "1"))
            self.told(desk, (f"tell {name} {name}", "ok"), (f"chain {name}", "2"))

    def test_back(self):
        desk = Desk()
        desk.tell("web a " + SOURCE)
        desk.tell("out a")
        done = desk.tell("done a").split("|")[:-1]
        for many in (0, 1, 3):
            desk.tell(f"back a {many}")
            done = done[:len(done) - many]
            self.exactly(desk.tell("done a"), "".join(move + "|" for move in done))
        desk.tell("back a " + FIGURES)
        self.exactly(desk.tell("done a"), "none")
        self.exactly(desk.tell("back a 0"), "ok")
        self.exactly(desk.tell("back a " + FIGURES), "ok")

    def test_texts_with_any_signs(self):
        # All that stands behind the blank is the text, blanks at its ends too.
        desk = Desk()
        for text, line in ((" ", 1), ("|", 1), ("houses 1", 1), ("houses 1| ", 2), ("houses 1||", 2),
                (" houses 1|", 1), ("houses  1|", 1)):
            for word in ("web", "record"):
                self.exactly(self.refused(BadText, desk.tell, f"{word} a {text}").line, line)
        self.exactly(desk.tell("web a houses 1|"), "ok")


class Errors(unittest.TestCase, Exactly):
    def test_what_the_functions_raise(self):
        desk, slow = desk_with_all(), desk_with_all(SlowDesk)
        ahead = all_told(desk)
        cases = [
            ("web a houses 0|", BadWeb, {"part": "many"}), ("web a houses 3|tie 0 1 5|", BadWeb, {"part": "joined"}),
            ("web a houses 2|tie 1 0 5|", BadWeb, {"part": 0}), ("web a houses 2|wake 0|", BadText, {"line": 2}),
            ("record r houses 2|wake 0|", BadWeb, {"part": "joined"}),
            ("record r houses 1|wake 0|wake 1|", BadRecord, {"index": 1}), ("record r wake 0|", BadText, {"line": 1}),
            ("record r houses 1|wake 0", BadText, {"line": 2}), ("wake a 0", NoMove, {}), ("wake a 3", NoMove, {}),
            ("wake a " + FIGURES, NoMove, {}), ("take a 1 0", NoMove, {}), ("take a 0 2", NoMove, {}),
            ("take a 0 0", NoMove, {}), ("take a 7 9", NoMove, {}), ("take a 0 " + FIGURES, NoMove, {}),
            ("state a 3", NoHouse, {}), ("state a " + FIGURES, NoHouse, {}), ("seen r 3", NoHouse, {}),
            ("state two 2", NoHouse, {})]
        for line, error, fields in cases:
            self.exactly(vars(self.refused(error, desk.tell, line)), fields)
            self.exactly(outcome(desk, line), outcome(slow, line))
            self.exactly(all_told(desk), ahead)

    def test_no_name(self):
        desk = desk_with_all()
        ahead = all_told(desk)
        for word in OF_WEBS:
            for name in ("r", "b", "aa", "abcdefgh"):
                self.exactly(self.refused(NoName, desk.tell, f"{word} {name}").name, name)
        for line in ("wake r 0", "take r 0 1", "back r 1", "state r 0", "wake r 99", "take r 9 9", "state r 99"):
            self.exactly(self.refused(NoName, desk.tell, line).name, "r")
        for line in ("events a", "wrong a", "chain a", "seen a 0", "seen a 99"):
            self.exactly(self.refused(NoName, desk.tell, line).name, "a")
        # Of a record that is told the first name may be new, or kept; the second is a web's.
        self.exactly(self.refused(NoName, desk.tell, "tell new r").name, "r")
        self.exactly(self.refused(NoName, desk.tell, "tell new b 1 2").name, "b")
        self.exactly(self.refused(NoName, desk.tell, "chain new").name, "new")
        self.exactly(all_told(desk), ahead)

    def test_no_line(self):
        desk = desk_with_all()
        ahead = all_told(desk)
        wrong = odd_things() + [
            "", " ", "a", "web", "web ", "web a", "web a ", "web  a", " web a houses 1|", "record", "record r",
            "record r ", "Web a houses 1|", "webs a houses 1|", "web A houses 1|", "web a1 houses 1|",
            "web abcdefghi houses 1|", "web a\thouses 1|", "web a houses 1|\n", "\nout a", "out a\n", "out\na", "out",
            "out ", "out a ", " out a", "out  a", "out a 0", "out a b", "out A", "out a_", "out \u00e9", "OUT a",
            "outs a", "tell", "tell r", "tell r ", "tell r a ", "tell r  a", "tell r a  0", "tell r a 0 ",
            "tell r a 00", "tell r a -1", "tell r a +1", "tell r a x", "tell r a " + FIGURES + "0", "tell r a 1 01",
            "tell R a", "tell r A", "tell r a,b", "tell r 0", "wake a", "wake a ", "wake a x", "wake a 00",
            "wake a 01", "wake a -0", "wake a +0", "wake a 0 0", "wake a 0 ", "wake  a 0", "wake a  0", "wake 0",
            "wake a \u0661", "wake a \u00b2", "wake a 1.0", "wake a 100000000000000000000", "take a", "take a 0",
            "take a 0 1 2", "take a 0 01", "take a 0  1", "take 0 1", "back", "back a", "back a x", "back a 1 2",
            "back a 01", "back a 000000000000000000001", "state a", "state a 0 1", "state a -", "seen r", "seen r 0 1",
            "seen r x", "events", "events r 0", "none a", "keep a", "houses 1", "ok", "|", "a a", "tree", "NoLine",
            ["out a"], ("out a",), b"out a", None, 0, desk]
        for line in wrong:
            self.refused(NoLine, desk.tell, line)
        self.exactly(all_told(desk), ahead)

    def test_no_line_ahead_of_all_else(self):
        desk = Desk()
        for line in ("out a 0", "wake a 01", "tell r a 01", "seen r -1", "state a", "wake a", "take a 0 1 ",
                "events r "):
            self.refused(NoLine, desk.tell, line)
        for line, name in (("out a", "a"), ("wake a 99", "a"), ("tell r a 1", "a"), ("seen r 99", "r"),
                ("take b 9 9", "b")):
            self.exactly(self.refused(NoName, desk.tell, line).name, name)

    def test_odd_things(self):
        desk = Desk()
        for thing in odd_things():
            self.refused(NoLine, desk.tell, thing)


class BesideASlowOne(unittest.TestCase, Exactly):
    def same(self, desk, slow, line):
        self.exactly(outcome(desk, line), outcome(slow, line))

    def variants(self, line):
        words = line.split(" ")
        for at in range(len(words)):
            for odd in (
                    "", "0", "1", "00", "01", "-1", "+0", "2", "9", "x", "a", "r", "two", "b", "A", "abcdefgh",
                    "abcdefghi", "|", "\t",
                    FIGURES, FIGURES + "0", "web", "record", "tell", "wake", "out", "seen", "chain", "a\n", "\u00e9",
                    "a a"):
                yield " ".join(words[:at] + [odd] + words[at + 1:])
            yield " ".join(words[:at] + words[at + 1:])
            yield " ".join(words[:at] + ["0"] + words[at:])
            yield " ".join(words[:at] + ["a"] + words[at:])
        for end in (" ", "  ", " 0", " 1", " 00", " a", "|", "\n", " wake", "0", "x"):
            yield line + end
        yield " " + line
        yield line.upper()
        for at in range(0, len(line), 3):
            yield line[:at]

    def test_each_form_otherwise(self):
        for form in FORMS:
            for line in self.variants(form):
                desk, slow = desk_with_all(), desk_with_all(SlowDesk)
                self.same(desk, slow, line)
                for name in ("a", "b", "r", "two", "x"):
                    for word in ("source", "done", "events"):
                        self.same(desk, slow, f"{word} {name}")

    def line_by_chance(self, chance):
        web = chance.choice((THREE, row_web([5]), Web(1, ()), ring_web([1, 1, 1, 1]), full_web(4, [6, 5, 4, 3, 2, 1])))
        name, other, house = chance.choice("abc"), chance.choice("abc"), chance.randrange(4)
        record = recorded(web, [chance.randrange(9) for _ in range(20)])
        record = Record(web, record.events[:chance.randrange(30)] + record.events[chance.randrange(30):])
        lines = [
            f"wake {name} {house}", f"take {name} {house} {chance.randrange(4)}", f"back {name} {chance.randrange(9)}",
            f"state {name} {house}", f"seen {name} {house}", f"tell {name} {other} {house} 7", f"tell {name} {other}",
            f"out {name}"]
        lines += [f"{word} {name}" for word in OF_WEBS[1:] + OF_RECORDS]
        lines += [f"web {name} " + web_text(web).replace("\n", "|"),
            f"record {name} " + record_text(record).replace("\n", "|")]
        return chance.choices(lines, [8, 30, 4, 2, 2, 2, 1, 1] + [1] * (len(OF_WEBS) + 2) + [2, 2])[0]

    def test_whole_talks(self):
        for seed in range(6):
            chance, desk, slow = Random(seed), Desk(), SlowDesk()
            for name in "abc":
                self.same(desk, slow, f"web {name} {SOURCE}")
            for _ in range(200):
                self.same(desk, slow, self.line_by_chance(chance))
            for name in "abc":
                for word in OF_WEBS + OF_RECORDS + OF_WEBS:
                    self.same(desk, slow, f"{word} {name}")

    def test_two_desks_know_nothing_of_each_other(self):
        one, other = desk_with_all(), Desk()
        self.exactly(self.refused(NoName, other.tell, "out a").name, "a")
        other.tell("web a houses 1|")
        other.tell("out a")
        self.exactly(one.tell("done a"), "wake 0|")
        self.exactly(all_told(desk_with_all()), all_told(one))

    def test_a_desk_is_equal_to_nothing_else(self):
        for thing in odd_things() + ["", 0]:
            self.assertFalse(Desk() == thing)


if __name__ == "__main__":
    unittest.main()
