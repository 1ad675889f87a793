"""Texts: webs, trees, moves and records, there and back; which line is wrong; wrong webs and records."""

import unittest
from random import Random

from leastroads.errors import BadRecord, BadText, BadWeb
from leastroads.glass import first_glass, moved, moves
from leastroads.records import Record, recorded
from leastroads.texts import (
    moves_text, read_moves, read_record, read_tree, read_web, record_text, tree_text, web_text,
)
from leastroads.trees import least_tree
from leastroads.webs import Web
from tests.orders import row_web, run_webs
from tests.slow import slow_trees, small_webs
from tests.slow_states import word_by_chance
from tests.slow_texts import (
    slow_moves_text, slow_record_text, slow_tree_text, slow_web_text, slow_wrong_line,
)
from tests.things import Exactly, odd_things

THREE = Web(3, ((0, 1, 5), (0, 2, 7), (1, 2, 6)))
ONE = Web(1, ())
READERS = {"web": read_web, "tree": read_tree, "moves": read_moves, "record": read_record}
WORDS = (
    ("join", 0), ("begin", 9, (5, 0, 1), 1), ("begin", 0, (7, 0, 2), 0), ("ask", 3, (6, 1, 2)), ("yes",), ("no",),
    ("report", ()), ("report", (7, 0, 2)), ("turn",), ("over",))
EVENTS = (("wake", 2), ("over", 0)) + tuple(("take", 0, 2, word) for word in WORDS)
TEXTS = {
    "web": "houses 3\ntie 0 1 5\ntie 0 2 7\ntie 1 2 6\n", "tree": "tree\nbranch 0 1\nbranch 1 2\n",
    "moves": "wake 0\ntake 0 1\nwake 2\n", "record": "".join([
        "houses 3\ntie 0 1 5\ntie 0 2 7\ntie 1 2 6\nwake 2\nover 0\ntake 0 2 join 0\ntake 0 2 begin 9 5:0:1 1\n",
        "take 0 2 begin 0 7:0:2 0\ntake 0 2 ask 3 6:1:2\ntake 0 2 yes\ntake 0 2 no\ntake 0 2 report -\n",
        "take 0 2 report 7:0:2\ntake 0 2 turn\ntake 0 2 over\n"]),
}
FIGURES = "98765432109876543210"
# What may stand in a line in the place of one of its words.
ODD_WORDS = (
    "", "-", "0", "00", "01", "+1", "-1", "1.0", "1_0", "x", "1x", FIGURES, FIGURES + "0", "0" * 21, "5:0:1", "5:0",
    "5:0:1:2", "05:0:1", "5:+0:1", "5::1", ":", "::", "5:0:1:", FIGURES + "1:0:1", "()", "None", "True", "\t", "1\t",
    "tie", "houses", "tree", "branch", "wake", "take", "over", "join", "yes", "report", "Wake", "wakes", "\u00b2",
    "\u0661", "1\u00a0", "\r", "1\r")


def told(read, text):
    """What a reader tells: what it read, or the line of its BadText; other errors by their class and field."""
    try:
        return ("read", read(text))
    except BadText as error:
        return ("line", error.line)
    except BadWeb as error:
        return ("web", error.part)
    except BadRecord as error:
        return ("record", error.index)


def run_moves(web, chance):
    """The moves of a whole run by chance."""
    glass, found = first_glass(web), []
    while moves(web, glass):
        found.append(chance.choice(moves(web, glass)))
        glass = moved(web, glass, found[-1])
    return found


class ThereAndBack(unittest.TestCase, Exactly):
    def test_by_hand(self):
        self.exactly(web_text(THREE), TEXTS["web"])
        self.exactly(web_text(ONE), "houses 1\n")
        self.exactly(tree_text(((0, 1), (1, 2))), TEXTS["tree"])
        self.exactly(tree_text(()), "tree\n")
        self.exactly(moves_text([("wake", 0), ("take", 0, 1), ("wake", 2)]), TEXTS["moves"])
        self.exactly(moves_text(()), "")
        self.exactly(record_text(Record(THREE, EVENTS)), TEXTS["record"])
        self.exactly(record_text(Record(ONE, ())), "houses 1\n")

    def test_webs(self):
        for web in list(small_webs()) + run_webs():
            text = web_text(web)
            self.exactly(text, slow_web_text(web))
            back = read_web(text)
            self.assertEqual(back, web)
            self.exactly((back.many, back.ties), (web.many, web.ties))

    def test_trees(self):
        for web in run_webs()[::5]:
            for tree in slow_trees(web)[:10] + [least_tree(web)]:
                self.exactly(tree_text(tree), slow_tree_text(tree))
                self.exactly(tree_text(list(tree)), tree_text(tree))
                self.exactly(read_tree(tree_text(tree)), tree)
        for pairs in ((), ((7, 3), (7, 3)), ((10 ** 20 - 1, 0),), [(5, 5)]):
            self.exactly(read_tree(tree_text(pairs)), tuple(pairs))

    def test_moves(self):
        chance = Random(1)
        for web in run_webs()[::4]:
            made = run_moves(web, chance)
            self.exactly(moves_text(made), slow_moves_text(made))
            self.exactly(moves_text(tuple(made)), moves_text(made))
            self.exactly(read_moves(moves_text(made)), tuple(made))
        odd = (("take", 10 ** 20 - 1, 0), ("wake", 99999), ("take", 3, 3))
        self.exactly(read_moves(moves_text(odd)), odd)
        self.exactly(read_moves(""), ())

    def test_records(self):
        chance = Random(2)
        for web in run_webs()[::4]:
            record = recorded(web, [chance.randrange(50) for _ in range(100)])
            self.there_and_back(record)

    def test_records_of_any_events(self):
        chance = Random(3)
        for web in run_webs()[1::6]:
            events = []
            for _ in range(40):
                a, b, weight = chance.choice(web.ties)
                one, other = chance.choice(((a, b), (b, a)))
                take = ("take", one, other, word_by_chance(chance, web))
                events.append(chance.choice((("wake", one), ("over", other), take)))
            self.there_and_back(Record(web, tuple(events)))
        self.there_and_back(Record(THREE, EVENTS))

    def there_and_back(self, record):
        text = record_text(record)
        self.exactly(text, slow_record_text(record.web, record.events))
        back = read_record(text)
        self.assertEqual(back, record)
        self.exactly((back.web.many, back.web.ties, back.events), (record.web.many, record.web.ties, record.events))

    def test_what_is_read_has_just_this_text(self):
        writers = {"web": web_text, "tree": tree_text, "moves": moves_text, "record": record_text}
        for kind, text in TEXTS.items():
            self.exactly(writers[kind](READERS[kind](text)), text)

    def test_what_is_passed_stays(self):
        tree, made = [(0, 1), (1, 2)], [("wake", 0), ("take", 0, 1)]
        tree_text(tree)
        moves_text(made)
        self.exactly((tree, made), ([(0, 1), (1, 2)], [("wake", 0), ("take", 0, 1)]))


class WrongLines(unittest.TestCase, Exactly):
    def same(self, kind, text):
        """The line that is told is the one that a slow reckoning tells; right texts are right."""
        got, line = told(READERS[kind], text), slow_wrong_line(kind, text)
        if line is None:
            self.assertNotEqual(got[0], "line", (kind, text))
        else:
            self.exactly(got, ("line", line))

    def variants(self, line):
        """A line with something otherwise."""
        words = line.split(" ")
        for at in range(len(words)):
            for odd in ODD_WORDS:
                yield " ".join(words[:at] + [odd] + words[at + 1:])
            yield " ".join(words[:at] + words[at + 1:])
            yield " ".join(words[:at] + ["0"] + words[at:])
            yield " ".join(words[:at] + [""] + words[at:])
            yield " ".join(words[:at] + [words[at] + " "] + words[at + 1:])
        for odd in ODD_WORDS:
            yield line + " " + odd
        yield line + " "
        yield " " + line
        yield line.replace(" ", "\t")
        yield line.upper()
        yield ""

    def test_each_line_otherwise(self):
        for kind, text in TEXTS.items():
            lines = text.split("\n")[:-1]
            for at, line in enumerate(lines):
                for other in self.variants(line):
                    self.same(kind, "\n".join(lines[:at] + [other] + lines[at + 1:]) + "\n")

    def test_lines_changed_about_doubled_and_left_out(self):
        for kind, text in TEXTS.items():
            lines = text.split("\n")[:-1]
            for at in range(len(lines)):
                self.same(kind, "\n".join(lines[:at] + lines[at + 1:]) + "\n")
                for place in range(len(lines) + 1):
                    self.same(kind, "\n".join(lines[:place] + [lines[at]] + lines[place:]) + "\n")
                    moved_about = lines[:at] + lines[at + 1:]
                    moved_about.insert(place, lines[at])
                    self.same(kind, "\n".join(moved_about) + "\n")

    def test_each_beginning(self):
        for kind, text in TEXTS.items():
            for many in range(len(text)):
                self.same(kind, text[:many])
            self.same(kind, text + "\n")
            self.same(kind, "\n" + text)
            self.same(kind, text + " ")

    def test_by_hand(self):
        cases = [
            ("web", "", 1), ("web", "\n", 1), ("web", "houses 3", 1), ("web", "houses 1\n\n", 2),
            ("web", "houses 01\n", 1), ("web", "houses 1 \n", 1), ("web", "houses 2\ntie 0 1 5", 2),
            ("web", "houses 2\ntie 0 1 5\ntie", 3), ("web", "tie 0 1 5\n", 1), ("web", "houses 2\nhouses 2\n", 2),
            ("web", "houses 2\nwake 0\n", 2), ("web", "houses 2\ntie 0  1 5\n", 2), ("web", "houses 2\ntie 0 1\n", 2),
            ("web", "houses -2\n", 1), ("web", "houses 2\ntie 0 1 5\r\n", 2),
            ("web", "houses 100000000000000000000\n", 1), ("tree", "", 1), ("tree", "tree", 1),
            ("tree", "tree 0\n", 1), ("tree", "tree\nbranch 0\n", 2), ("tree", "branch 0 1\n", 1),
            ("tree", "tree\ntree\n", 2), ("moves", "\n", 1), ("moves", "wake 0", 1), ("moves", "wake 0\nover 0\n", 2),
            ("moves", "take 0 1 yes\n", 1), ("moves", "wake 0\ntake 0\n", 2), ("moves", " ", 1), ("record", "", 1),
            ("record", "wake 0\n", 1), ("record", "houses 1\nwake 0\nhouses 1\n", 3),
            ("record", "houses 2\ntie 0 1 5\nwake 0\ntie 0 1 5\n", 4), ("record", "houses 2\nwake 0\ntie 0 1 5\n", 3),
            ("record", "houses 2\ntake 0 1\n", 2), ("record", "houses 2\ntake 0 1 join\n", 2),
            ("record", "houses 2\ntake 0 1 join -\n", 2), ("record", "houses 2\ntake 0 1 begin 1 - 1\n", 2),
            ("record", "houses 2\ntake 0 1 begin 1 5:0:1 -\n", 2), ("record", "houses 2\ntake 0 1 ask 1 -\n", 2),
            ("record", "houses 2\ntake 0 1 ask 1 2\n", 2), ("record", "houses 2\ntake 0 1 report 1\n", 2),
            ("record", "houses 2\ntake 0 1 report 5:0:1 -\n", 2), ("record", "houses 2\ntake 0 1 report ()\n", 2),
            ("record", "houses 2\ntake 0 1 yes \n", 2), ("record", "houses 2\ntake 0 1 wake 0\n", 2),
            ("record", "houses 2\ntake 0 1  yes\n", 2), ("record", "houses 2\ntake 0 1 join 00\n", 2)]
        for kind, text, line in cases:
            self.exactly(self.refused(BadText, READERS[kind], text).line, line)
            self.exactly(slow_wrong_line(kind, text), line)

    def test_no_string(self):
        for thing in odd_things() + [b"houses 1\n", ["houses 1\n"], ("houses 1\n",), None, 0, ONE]:
            for read in READERS.values():
                if not isinstance(thing, str):
                    self.exactly(self.refused(BadText, read, thing).line, 0)

    def test_odd_strings(self):
        for text in ("", "\n" * 20000, " " * 20000, "0" * 20000, "wake 0\n" * 2857, "houses " + "1" * 19000 + "\n",
                "\0", "%"):
            for kind in READERS:
                self.same(kind, text)

    def test_a_text_of_another_kind(self):
        for kind, read in READERS.items():
            for other, text in TEXTS.items():
                self.same(kind, text)
                # A web's text is that of a record without events, too.
                if kind != other and (kind, other) != ("record", "web"):
                    self.assertEqual(told(read, text)[0], "line")
        self.assertEqual(read_record(TEXTS["web"]), Record(THREE, ()))


class WrongWebsAndRecords(unittest.TestCase, Exactly):
    def test_webs(self):
        cases = [
            ("houses 0\n", "many"), ("houses 11\n", "many"), ("houses " + FIGURES + "\n", "many"),
            ("houses 2\n", "joined"), ("houses 11\ntie 1 0 5\n", "many"), ("houses 2\ntie 1 0 5\n", 0),
            ("houses 2\ntie 0 1 1000000\n", 0), ("houses 2\ntie 0 2 5\n", 0), ("houses 3\ntie 0 1 5\ntie 0 1 6\n", 1),
            ("houses 3\ntie 0 2 5\ntie 0 1 6\n", 1), ("houses 3\ntie 0 1 5\n", "joined"),
            ("houses 2\ntie 0 1 " + FIGURES + "\n", 0)]
        for text, part in cases:
            self.exactly(self.refused(BadWeb, read_web, text).part, part)
            self.exactly(self.refused(BadWeb, read_record, text).part, part)
            self.exactly(self.refused(BadWeb, read_record, text + "wake 99\n").part, part)

    def test_records(self):
        head = TEXTS["web"]
        cases = [
            ("wake 3\n", 0), ("wake 0\nover 3\n", 1), ("take 0 3 yes\n", 0), ("take 1 1 yes\n", 0),
            ("take 0 1 join 10\n", 0), ("wake 0\nwake 1\ntake 0 1 begin 1 5:0:1 2\n", 2),
            ("take 0 1 begin 1 5:1:0 1\n", 0), ("take 0 1 ask 1 4:0:1\n", 0), ("take 0 1 report 0:0:0\n", 0),
            ("wake " + FIGURES + "\n", 0), ("take 0 1 ask " + FIGURES + " 5:0:1\n", 0)]
        for text, index in cases:
            self.exactly(self.refused(BadRecord, read_record, head + text).index, index)
        web = row_web([1, 2])
        self.exactly(self.refused(BadRecord, read_record, web_text(web) + "take 0 2 yes\n").index, 0)
        self.exactly(self.refused(BadRecord, read_record, "houses 1\n" + "wake 0\n" * 3001).index, -1)
        self.exactly(len(read_record("houses 1\n" + "over 0\n" * 3000).events), 3000)

    def test_a_wrong_line_is_told_ahead_of_a_wrong_web(self):
        self.exactly(told(read_web, "houses 99\ntie 0 1\n"), ("line", 2))
        self.exactly(told(read_record, "houses 99\nwake 0\nwake\n"), ("line", 3))
        self.exactly(told(read_record, TEXTS["web"] + "wake 9\nwake 0"), ("line", 6))

    def test_twenty_figures_are_read_where_nothing_limits_them(self):
        self.exactly(read_tree(f"tree\nbranch {FIGURES} 0\n"), ((int(FIGURES), 0),))
        self.exactly(read_moves(f"take 1 {FIGURES}\n"), (("take", 1, int(FIGURES)),))
        self.exactly(told(read_moves, f"take 1 {FIGURES}0\n"), ("line", 1))


if __name__ == "__main__":
    unittest.main()
