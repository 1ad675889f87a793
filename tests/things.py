"""Things of all kinds that may be passed where the document names an error or judges."""

from leastroads.desks import Desk
from leastroads.disks import Disk
from leastroads.errors import BadWeb, NoHouse
from leastroads.films import Reel
from leastroads.links import Incoming, Outgoing
from leastroads.nets import Net
from leastroads.posts import Post
from leastroads.records import Record
from leastroads.savings import SavedHouse
from leastroads.waves import Wave
from leastroads.webs import Web


def nested(deep, wrap):
    thing = wrap(None)
    for _ in range(deep - 1):
        thing = wrap(thing)
    return thing


def some_function():
    return None


def odd_things():
    """A new list of things, none of which is a house, a tie, a tree or a paper of any web."""
    return [
        None, True, False, -1, -(10 ** 20), 10 ** 20, 10 ** 4000, NotImplemented, Ellipsis,
        "", "0", "many", "joined", "a\n" * 10000, b"", b"\x00\x01\x02", bytearray(b"01"),
        [], [0], [0, 1], [0, 1, 5], [[0, 1]], [(0, 1, 5)], {}, {0: 1}, {(0, 1): 5}, {"many": [1]},
        (None,), (True,), (False, True), (False, True, 5), ("0", "1", "5"), (0, [1], 5), ((), (), ()),
        range(3), slice(0, 1), some_function, len, Web, int, ValueError("x"),
        BadWeb("many"), NoHouse(), Web(1, ()), Web(2, ((0, 1, 5),)), [Web(2, ((0, 1, 5),))],
        Record(Web(1, ()), (("wake", 0),)), Wave(Web(1, ()), (), (0,)), Outgoing(), Incoming(), Record, Wave,
        Disk(), Post(Web(1, ()), 0), SavedHouse(Web(1, ()), 0, Disk()), Net(Web(1, ())), Desk(), Disk, Post,
        Reel(Web(1, ()), (("wake", 0),), 1), [Disk()], (Disk(),), {0: Disk()}, ("hear", Disk()), ("wake", Disk()),
        nested(39, lambda thing: (thing,)), nested(39, lambda thing: [thing]),
        nested(39, lambda thing: {0: thing}), nested(20, lambda thing: ([thing],)),
        nested(20, lambda thing: (0, (thing, 5))), (None,) * 19999, [0] * 19999, (True, 1) * 9999,
    ]


def not_tuples():
    return [thing for thing in odd_things() if not isinstance(thing, tuple)]


class Exactly:
    """What the test cases share: kinds are compared, too, and the very class of an error."""

    def exactly(self, got, wanted):
        """Equal, and of the same kinds: repr tells a flag from a number, a list from a tuple."""
        self.assertEqual(got, wanted)
        self.assertEqual(repr(got), repr(wanted))

    def refused(self, error, call, *things):
        """The call raises just this error, and leaves what it was passed alone."""
        ahead = repr(things)
        with self.assertRaises(error) as caught:
            call(*things)
        self.assertIs(type(caught.exception), error)
        self.assertEqual(repr(things), ahead)
        return caught.exception
