"""Nets led through faults, reckoned slowly by the document's words alone."""

from leastroads.rows import unsealed
from tests.slow_posts import Refused, SlowSaved, is_slow_row, slow_number
from tests.slow_states import near


class SlowNet:
    def __init__(self, web):
        self.web, self.bag = web, []
        self.houses = [SlowSaved(web, number) for number in range(web.many)]

    def told(self):
        """All that can be asked of a net."""
        disks = [(house.blocks, house.synced) for house in self.houses]
        return ([house.past() for house in self.houses], disks, self.bag, self.glass())

    def between(self, one, other):
        taken = self.houses[other].post.taken[one]
        return tuple(word for number, word in self.houses[one].post.waiting(other) if not number < taken)

    def pairs(self):
        return sorted((one, other) for one in range(self.web.many) for other in near(self.web, one))

    def glass(self):
        ways = [(one, other, self.between(one, other)) for one, other in self.pairs()]
        return (tuple(house.state() for house in self.houses), tuple(way for way in ways if way[2]))

    def need(self, holds):
        if not holds:
            raise Refused

    def need_house(self, thing):
        self.need(slow_number(thing) and thing < self.web.many)

    def need_place(self, thing):
        self.need(slow_number(thing) and thing < len(self.bag))

    def deed(self, thing):
        forms = {
            "wake": 1, "keep": 1, "post": 2, "bring": 1, "lose": 1, "double": 1, "spoil": 3, "send": 2, "cut": 2}
        self.need(type(thing) is tuple and len(thing) > 0 and type(thing[0]) is str)
        self.need(forms.get(thing[0]) == len(thing) - 1)
        return getattr(self, "do_" + thing[0])(*thing[1:])

    def do_wake(self, house):
        self.need_house(house)
        return self.houses[house].deed(("wake",))

    def do_keep(self, house):
        self.need_house(house)
        return self.houses[house].keep()

    def do_post(self, one, other):
        self.need_house(one)
        self.need_house(other)
        self.need(other in near(self.web, one))
        self.bag.append((other, self.houses[one].letter(other)))

    def do_bring(self, place):
        self.need_place(place)
        to, row = self.bag.pop(place)
        return self.houses[to].deed(("hear", row))

    def do_lose(self, place):
        self.need_place(place)
        del self.bag[place]

    def do_double(self, place):
        self.need_place(place)
        self.bag.append(self.bag[place])

    def do_spoil(self, place, at, byte):
        self.need_place(place)
        to, row = self.bag[place]
        self.need(slow_number(at) and at < len(row) and slow_number(byte) and byte < 256)
        other = row[:at] + (byte,) + row[at + 1:]
        self.need(other == row or not unsealed(other))
        self.bag[place] = (to, other)

    def do_send(self, to, row):
        self.need_house(to)
        self.need(is_slow_row(row) and not unsealed(row))
        self.bag.append((to, row))

    def do_cut(self, house, kept):
        self.need_house(house)
        waiting = self.houses[house].waiting()
        self.need(type(kept) is tuple and len(kept) == len(waiting))
        self.need(all(slow_number(many) and many <= len(row) for many, row in zip(kept, waiting)))
        self.houses[house] = self.houses[house].cut(kept)

    def round_trip(self):
        for house in self.houses:
            if house.state()[0] == "asleep":
                house.deed(("wake",))
        for one, other in self.pairs():
            while self.houses[one].post.waiting(other):
                self.houses[other].deed(("hear", self.houses[one].letter(other)))
                self.houses[one].deed(("hear", self.houses[other].letter(one)))

    def is_settled(self):
        over = [house.state()[0] == "over" for house in self.houses]
        return all(over) and not any(self.houses[one].post.waiting(other) for one, other in self.pairs())

    def settle(self, most):
        for many in range(most):
            if self.is_settled():
                return many
            self.round_trip()
        return most
