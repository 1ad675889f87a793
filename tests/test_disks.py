"""Disks: what is written, synced, cut, dropped, copied; the parcels of blocks."""

import unittest
from random import Random

from leastroads.disks import Disk, kept_parcels
from leastroads.errors import NoBlocks, NoCut, NoNumber, NoRow
from leastroads.rows import row_of, sealed
from leastroads.webs import Web
from tests.things import Exactly, odd_things

ROWS = ((), (0,), (255,), (1, 2, 3), (0, 0), tuple(range(256)), (7,) * 600, sealed(None), sealed(("past", ())))
NO_ROWS = (
    None, True, 0, "", "abc", b"", b"abc", [], [1], {}, {0: 1}, (True,), (1, False), (256,), (-1,), (1, 256), ("1",),
    ((1,),), (None,), (10 ** 20,), (1, [2]), range(3), Web(1, ()), Disk(), Disk)
PARCELS = (None, True, 0, -1, "a", (), ("house", 5, 1), ("deed", ("wake",)), (1, (2, (3, "x"))), 10 ** 19)


class SlowDisk:
    """Keeps for each block whether it waits."""

    def __init__(self, blocks=()):
        self.blocks = list(blocks)

    def write(self, row):
        self.blocks.append([row, True])
        return len(self.blocks) - 1

    def sync(self):
        many = len(self.waiting())
        self.blocks = [[row, False] for row, _ in self.blocks]
        return many

    def waiting(self):
        return [row for row, waits in self.blocks if waits]

    def cut(self, kept):
        left = list(kept)
        self.blocks = [[row[:left.pop(0)] if waits else row, False] for row, waits in self.blocks]

    def drop(self, number):
        del self.blocks[number:]

    def copy(self):
        return SlowDisk([list(block) for block in self.blocks])

    def told(self):
        return ([row for row, _ in self.blocks], len([row for row, waits in self.blocks if not waits]))


def told(disk):
    return (disk.blocks(), disk.synced())


def disk_of(synced, waiting):
    disk = Disk()
    for row in synced:
        disk.write(row)
    disk.sync()
    for row in waiting:
        disk.write(row)
    return disk


class Writes(unittest.TestCase, Exactly):
    def test_nothing_written(self):
        disk = Disk()
        self.exactly(told(disk), ([], 0))
        self.exactly(disk.sync(), 0)
        self.exactly(disk.cut(()), None)
        self.exactly(disk.drop(0), None)
        self.exactly(told(disk), ([], 0))

    def test_by_hand(self):
        disk = Disk()
        self.exactly([disk.write((1, 2)), disk.write(()), disk.write((3,))], [0, 1, 2])
        self.exactly(told(disk), ([(1, 2), (), (3,)], 0))
        self.exactly(disk.sync(), 3)
        self.exactly(told(disk), ([(1, 2), (), (3,)], 3))
        self.exactly(disk.sync(), 0)
        self.exactly([disk.write((4, 5, 6)), disk.write((7,))], [3, 4])
        self.exactly(told(disk), ([(1, 2), (), (3,), (4, 5, 6), (7,)], 3))
        self.exactly(disk.cut((2, 0)), None)
        self.exactly(told(disk), ([(1, 2), (), (3,), (4, 5), ()], 5))
        self.exactly(disk.write((8,)), 5)
        self.exactly(disk.drop(4), None)
        self.exactly(told(disk), ([(1, 2), (), (3,), (4, 5)], 4))
        self.exactly(disk.write((9,)), 4)
        self.exactly(disk.sync(), 1)

    def test_each_row(self):
        disk = Disk()
        for number, row in enumerate(ROWS):
            self.exactly(disk.write(row), number)
        self.exactly(disk.blocks(), list(ROWS))

    def test_no_row(self):
        disk = disk_of([(1,)], [(2, 3)])
        for thing in list(NO_ROWS) + [thing for thing in odd_things() if thing != ()]:
            self.refused(NoRow, disk.write, thing)
            self.exactly(told(disk), ([(1,), (2, 3)], 1))
        self.exactly(disk.write((4,)), 2)

    def test_what_is_returned_is_new(self):
        disk = disk_of([(1,)], [(2,)])
        disk.blocks().append((3,))
        disk.blocks().clear()
        self.exactly(told(disk), ([(1,), (2,)], 1))
        self.assertIsNot(disk.blocks(), disk.blocks())

    def test_a_disk_is_equal_to_nothing_else(self):
        for thing in odd_things() + [[], 0, (), Disk]:
            self.assertFalse(Disk() == thing)
            self.assertTrue(Disk() != thing)


class Cuts(unittest.TestCase, Exactly):
    def test_nothing_waits(self):
        for rows in ([], [(1,)], [(1, 2), (3,)]):
            disk = disk_of(rows, [])
            disk.cut(())
            self.exactly(told(disk), (rows, len(rows)))
            self.refused(NoCut, disk.cut, (0,))
            self.exactly(told(disk), (rows, len(rows)))

    def test_all_kept_and_none_kept(self):
        disk = disk_of([(9,)], [(1, 2), (), (3,)])
        disk.cut((2, 0, 1))
        self.exactly(told(disk), ([(9,), (1, 2), (), (3,)], 4))
        disk = disk_of([(9,)], [(1, 2), (), (3,)])
        disk.cut((0, 0, 0))
        self.exactly(told(disk), ([(9,), (), (), ()], 4))

    def test_each_number_of_bytes(self):
        row = tuple(range(100, 120))
        for first in range(21):
            for second in (0, 7, 20):
                disk = disk_of([row], [row, row])
                disk.cut((first, second))
                self.exactly(told(disk), ([row, row[:first], row[:second]], 3))

    def test_no_cut(self):
        disk = disk_of([(9,)], [(1, 2), (), (3,)])
        ahead = told(disk)
        wrong = [
            [2, 0, 1], (2, 0), (2, 0, 1, 0), (), (3, 0, 1), (2, 1, 1), (2, 0, 2), (2, 0, -1), (-1, 0, 1), (True, 0, 1),
            (2, False, 1), (2, 0, True), (2, 0, None), ("2", 0, 1), (2, 0, (1,)), (2, 0, [1]), (10 ** 20, 0, 1), "201",
            b"\x02\x00\x01", {0: 2, 1: 0, 2: 1}, range(3), None, 3, (2, Web(1, ()), 1), (2, 0, disk)]
        for thing in wrong + odd_things():
            self.refused(NoCut, disk.cut, thing)
            self.exactly(told(disk), ahead)
        disk.cut((1, 0, 1))
        self.exactly(told(disk), ([(9,), (1,), (), (3,)], 4))

    def test_odd_things_where_nothing_waits(self):
        disk = disk_of([(9,)], [])
        for thing in odd_things():
            if thing != ():
                self.refused(NoCut, disk.cut, thing)
        self.exactly(told(disk), ([(9,)], 1))


class Drops(unittest.TestCase, Exactly):
    def test_each_number(self):
        synced, waiting = [(1,), (2,), (3,)], [(4,), (), (6,)]
        for number in range(7):
            disk = disk_of(synced, waiting)
            self.exactly(disk.drop(number), None)
            self.exactly(told(disk), ((synced + waiting)[:number], min(number, 3)))
            self.exactly(disk.write((7,)), number)
            self.exactly(disk.sync(), max(0, number - 3) + 1)

    def test_no_number(self):
        disk = disk_of([(1,)], [(2,)])
        for thing in odd_things() + [3, 4, 10 ** 20, -1, True, False, "1", (1,), [1], None]:
            self.refused(NoNumber, disk.drop, thing)
            self.exactly(told(disk), ([(1,), (2,)], 1))
        disk.drop(2)
        self.exactly(told(disk), ([(1,), (2,)], 1))


class ByChance(unittest.TestCase, Exactly):
    def step(self, chance, disk, slow):
        kind = chance.choice(("write", "write", "write", "sync", "cut", "drop", "wrong"))
        if kind == "write":
            row = chance.choice(ROWS)
            self.exactly(disk.write(row), slow.write(row))
        elif kind == "sync":
            self.exactly(disk.sync(), slow.sync())
        elif kind == "cut":
            kept = tuple(chance.choice((0, len(row), chance.randint(0, len(row)))) for row in slow.waiting())
            self.exactly(disk.cut(kept), slow.cut(kept))
        elif kind == "drop":
            number = chance.choice((0, len(slow.blocks), chance.randint(0, len(slow.blocks))))
            self.exactly(disk.drop(number), slow.drop(number))
        else:
            self.refused(NoCut, disk.cut, tuple(len(row) for row in slow.waiting()) + (0,))
            self.refused(NoNumber, disk.drop, len(slow.blocks) + 1)
            self.refused(NoRow, disk.write, list(chance.choice(ROWS)))

    def test_many_orders(self):
        chance = Random(1)
        for _ in range(80):
            disks = [(Disk(), SlowDisk())]
            for _ in range(60):
                disk, slow = chance.choice(disks)
                if len(disks) < 4 and chance.random() < 0.1:
                    twin = disk.copy()
                    self.assertIs(type(twin), Disk)
                    disks.append((twin, slow.copy()))
                self.step(chance, disk, slow)
                for each, beside in disks:
                    self.exactly(told(each), beside.told())


class KeptParcels(unittest.TestCase, Exactly):
    def test_right_blocks(self):
        blocks = [sealed(parcel) for parcel in PARCELS]
        for many in range(len(blocks) + 1):
            self.exactly(kept_parcels(blocks[:many]), list(PARCELS[:many]))
            self.exactly(kept_parcels(tuple(blocks[:many])), list(PARCELS[:many]))

    def test_cut_blocks(self):
        blocks = [sealed(parcel) for parcel in PARCELS]
        for at, block in enumerate(blocks):
            for many in range(len(block)):
                cut = blocks[:at] + [block[:many]] + blocks[at + 1:]
                self.exactly(kept_parcels(cut), list(PARCELS[:at]))

    def test_a_byte_otherwise(self):
        blocks = [sealed(parcel) for parcel in PARCELS]
        for at, block in enumerate(blocks):
            for place in range(len(block)):
                for byte in {(block[place] + 1) % 256, (block[place] + 128) % 256, 0} - {block[place]}:
                    spoilt = block[:place] + (byte,) + block[place + 1:]
                    cut = blocks[:at] + [spoilt] + blocks[at + 1:]
                    self.exactly(kept_parcels(cut), list(PARCELS[:at]))

    def test_rows_without_a_seal(self):
        for parcel in PARCELS:
            self.exactly(kept_parcels([row_of(parcel), sealed(parcel)]), [])
            self.exactly(kept_parcels([sealed(parcel), row_of(parcel), sealed(parcel)]), [parcel])
        self.exactly(kept_parcels([()]), [])
        self.exactly(kept_parcels(((1, 2), sealed(1))), [])

    def test_no_blocks(self):
        good = sealed(("deed", ("wake",)))
        for thing in NO_ROWS:
            for blocks in ([thing], (thing,), [good, thing], [thing, good], [good, (), thing], [(), (5,), good, thing]):
                self.refused(NoBlocks, kept_parcels, blocks)
        rows = ([], (), [(0, 1, 5)], ((), (), ()))
        for thing in [None, "", good, {0: good}, Disk()] + odd_things():
            if thing in rows:
                self.exactly(kept_parcels(thing), [])
            else:
                self.refused(NoBlocks, kept_parcels, thing)
        self.exactly(kept_parcels([]), [])
        self.exactly(kept_parcels(()), [])

    def test_what_is_passed_stays_and_what_is_returned_is_new(self):
        blocks = [sealed(1), sealed(2), (1,)]
        ahead = list(blocks)
        first = kept_parcels(blocks)
        first.append(3)
        self.exactly(blocks, ahead)
        self.exactly(kept_parcels(blocks), [1, 2])

    def test_of_a_disk(self):
        disk = disk_of([sealed(1)], [sealed("two"), sealed((3,))])
        self.exactly(kept_parcels(disk.blocks()), [1, "two", (3,)])
        disk.cut((len(sealed("two")), 2))
        self.exactly(kept_parcels(disk.blocks()), [1, "two"])


if __name__ == "__main__":
    unittest.main()
