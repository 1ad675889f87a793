"""A desk by the document's words: forms by regular expressions, answers by the functions of the package.

The moves on a web are made one by one from the first glass, for each line anew.
"""

import re

from leastroads.ends import bounds
from leastroads.errors import NoHouse, NoLine, NoMove, NoName
from leastroads.films import drawn, drawn_marks, drawn_tree
from leastroads.glass import broken, first_glass, fragments, marked, moved, moves
from leastroads.records import first_wrong, longest_chain, recorded, seen
from leastroads.texts import moves_text, read_record, read_web, record_text, web_text
from leastroads.trees import least_tree, weight_of
from tests.slow_texts import N

NAME = "([a-z]{1,8})"
OF_WEBS = (
    f"wake {NAME} ({N})", f"take {NAME} ({N}) ({N})", f"back {NAME} ({N})", f"state {NAME} ({N})",
    f"(?:out|source|done|next|view|marks|tree|steps|marked|lots|broken|weight|bounds) {NAME}")
OF_RECORDS = (f"(?:events|wrong|chain) {NAME}", f"seen {NAME} ({N})")


def lined(text):
    return text.replace("\n", "|")


class SlowDesk:
    def __init__(self):
        self.webs, self.records = {}, {}

    def tell(self, line):
        if not isinstance(line, str) or "\n" in line:
            raise NoLine()
        word = line.split(" ")[0]
        kept = re.fullmatch(f"(web|record) {NAME} (.+)", line, re.DOTALL)
        if kept:
            return self.keep(*kept.groups())
        run = re.fullmatch(f"tell {NAME} {NAME}((?: {N})*)", line)
        if run:
            web = self.find(run[2], self.webs)[0]
            self.records[run[1]] = recorded(web, [int(number) for number in run[3].split()])
            return "ok"
        for forms, shelf in ((OF_WEBS, self.webs), (OF_RECORDS, self.records)):
            for form in forms:
                found = re.fullmatch(form, line)
                if found:
                    thing = self.find(found[1], shelf)
                    return getattr(self, word + "_line")(thing, *map(int, found.groups()[1:]))
        raise NoLine()

    def find(self, name, shelf):
        if name not in shelf:
            raise NoName(name)
        return shelf[name]

    def keep(self, kind, name, text):
        if kind == "web":
            self.webs[name] = (read_web(text.replace("|", "\n")), [])
        else:
            self.records[name] = read_record(text.replace("|", "\n"))
        return "ok"

    def glass(self, bench):
        glass = first_glass(bench[0])
        for move in bench[1]:
            glass = moved(bench[0], glass, move)
        return glass

    def make(self, bench, move):
        if move not in moves(bench[0], self.glass(bench)):
            raise NoMove()
        bench[1].append(move)
        return "ok"

    def wake_line(self, bench, house):
        return self.make(bench, ("wake", house))

    def take_line(self, bench, one, other):
        return self.make(bench, ("take", one, other))

    def back_line(self, bench, many):
        for _ in range(min(many, len(bench[1]))):
            bench[1].pop()
        return "ok"

    def out_line(self, bench):
        glass = self.glass(bench)
        while moves(bench[0], glass):
            bench[1].append(moves(bench[0], glass)[0])
            glass = moved(bench[0], glass, bench[1][-1])
        return "ok"

    def source_line(self, bench):
        return lined(web_text(bench[0]))

    def done_line(self, bench):
        return lined(moves_text(bench[1])) or "none"

    def next_line(self, bench):
        return lined(moves_text(moves(bench[0], self.glass(bench)))) or "none"

    def view_line(self, bench):
        return lined(drawn(bench[0], self.glass(bench)))

    def marks_line(self, bench):
        return lined(drawn_marks(bench[0], self.glass(bench)))

    def tree_line(self, bench):
        return lined(drawn_tree(bench[0], least_tree(bench[0])))

    def steps_line(self, bench):
        return str(len(bench[1]))

    def marked_line(self, bench):
        return " ".join("-".join(map(str, pair)) for pair in marked(bench[0], self.glass(bench))) or "none"

    def lots_line(self, bench):
        return " ".join(",".join(map(str, lot)) for lot in fragments(bench[0], self.glass(bench)))

    def broken_line(self, bench):
        return " ".join(broken(bench[0], self.glass(bench))) or "none"

    def state_line(self, bench, house):
        if house >= bench[0].many:
            raise NoHouse()
        stage, level = self.glass(bench)[0][house][:2]
        return f"{stage} {level}"

    def weight_line(self, bench):
        return str(weight_of(bench[0], least_tree(bench[0])))

    def bounds_line(self, bench):
        return " ".join(map(str, bounds(bench[0])))

    def events_line(self, record):
        return lined(record_text(record))

    def wrong_line(self, record):
        wrong = first_wrong(record)
        return f"{wrong[0]} {wrong[1]}" if wrong else "none"

    def chain_line(self, record):
        return str(longest_chain(record))

    def seen_line(self, record, house):
        return str(len(seen(record, house)))
