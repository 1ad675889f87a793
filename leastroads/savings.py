"""Saved houses: posts whose past lasts on a disk."""

from leastroads.disks import Disk, kept_parcels
from leastroads.errors import NoDeed, NoDisk, OtherHouse
from leastroads.links import is_pair
from leastroads.posts import Post, is_past, post_of
from leastroads.rows import mark, sealed
from leastroads.texts import web_text


def first_block(web, number):
    """The block with which the disk of a house begins."""
    signs = tuple([ord(sign) for sign in web_text(web)])
    return sealed(("house", mark(signs), number))


def tells_of_house(block):
    """Whether a block tells whose disk it is on, by the form of its parcel alone."""
    parcels = kept_parcels([block])
    if not parcels or not isinstance(parcels[0], tuple):
        return False
    return len(parcels[0]) == 3 and parcels[0][0] == "house"


def make_own(disk, first):
    """Sees to it that a disk begins with this block; OtherHouse if it is that of another house."""
    blocks = disk.blocks()
    # Blocks are compared, not parcels: a parcel with True in the place of 1 is equal to a right one.
    if blocks and blocks[0] == first:
        return
    if blocks and tells_of_house(blocks[0]):
        raise OtherHouse()
    disk.drop(0)
    disk.write(first)


def does_anew(post, deed):
    """Whether a Post, not yet over a disk, does a deed by which its past is another one."""
    ahead = post.past()
    try:
        post.deed(deed)
    except NoDeed:
        return False
    return post.past() != ahead


def behind_parcel(post, parcel):
    """The Post behind what a block tells, None if it tells nothing that can come there."""
    if not is_pair(parcel):
        return None
    if parcel[0] == "past" and is_past(post.web, post.number, parcel[1]):
        return post_of(post.web, post.number, parcel[1])
    if parcel[0] == "deed" and does_anew(post, parcel[1]):
        return post
    return None


def behind_parcels(web, number, parcels):
    """The pair of the Post behind the first of these parcels, and of how many can come there."""
    post = Post(web, number)
    for at, parcel in enumerate(parcels):
        behind = behind_parcel(post, parcel)
        if behind is None:
            return (post, at)
        post = behind
    return (post, len(parcels))


class SavedHouse(Post):
    """A Post over a disk, its journal, from which it goes on when it is made anew."""

    def __init__(self, web, number, disk):
        super().__init__(web, number)
        if not isinstance(disk, Disk):
            raise NoDisk()
        make_own(disk, first_block(web, number))
        post, many = behind_parcels(web, number, kept_parcels(disk.blocks())[1:])
        disk.drop(1 + many)
        disk.sync()
        self.goes_on_as(post)
        self.journal = disk

    def state(self):
        """The state that it is in."""
        return super().state()

    def past(self):
        """The triple (state, outs, ins) of a Post."""
        return super().past()

    def deed(self, thing):
        """Does a deed, as a Post does, and notes it if its past is another one then."""
        ahead = self.past()
        told = super().deed(thing)
        if self.past() != ahead:
            self.journal.write(sealed(("deed", thing)))
        return told

    def letter(self, to):
        """The sealed row of its letter to a neighbour; what it tells of is synced ahead."""
        row = super().letter(to)
        self.journal.sync()
        return row

    def keep(self):
        """Writes its past, syncs all, and returns how many blocks there are."""
        self.journal.write(sealed(("past", self.past())))
        self.journal.sync()
        return self.journal.synced()

    def moved(self, disk):
        """A SavedHouse with this past over another Disk, which has no blocks yet."""
        if not isinstance(disk, Disk) or disk.blocks():
            raise NoDisk()
        other = SavedHouse(self.web, self.number, disk)
        other.goes_on_as(self)
        other.keep()
        return other

    def copy(self):
        """Another SavedHouse that goes on apart, over a copy of its disk."""
        other = SavedHouse(self.web, self.number, Disk())
        other.goes_on_as(self)
        other.journal = self.journal.copy()
        return other
