"""The errors of the package: each stands directly under Refused and tells one value."""


class Refused(ValueError):
    """A refusal; what is the value that it speaks of."""

    def __init__(self, what):
        self.what = what


class Off(Refused):
    """The power is gone, or another pool took the drives."""


class BadName(Refused):
    """A value is no name, or no root's text."""


class BadPath(Refused):
    """A value is no path."""


class BadNumber(Refused):
    """A number is beyond its bounds."""


class NotGood(Refused):
    """A cell shows no good row."""


class TopFolder(Refused):
    """The deed is not for the top folder."""


class NoName(Refused):
    """A folder has no entry of a name on the path."""


class NotFolder(Refused):
    """A file stands where the path needs a folder."""


class IsFolder(Refused):
    """A folder stands where the deed needs a file."""


class Taken(Refused):
    """The name or the path is taken."""


class NoNode(Refused):
    """The volume has no node left."""


class FolderFull(Refused):
    """The bucket of the name is full."""


class NotEmpty(Refused):
    """The folder has an entry."""


class Within(Refused):
    """A folder would come to lie within itself."""


class TooLong(Refused):
    """The file would become too long."""


class NoVolume(Refused):
    """There is no volume of this name."""


class NoRoot(Refused):
    """The volume has no such snapshot."""


class NoSnap(Refused):
    """A snapshot is needed, and there is none."""


class HasSnaps(Refused):
    """The volume has a snapshot."""


class Cloned(Refused):
    """The snapshot has more than one child."""


class NotClone(Refused):
    """The volume has no origin."""


class NoBase(Refused):
    """The one is not above the other."""


class Changed(Refused):
    """The head is not what its snapshot is."""


class BadStream(Refused):
    """A parcel of a stream is not right."""


class Quota(Refused):
    """The volume would pass its quota."""


class NoRoom(Refused):
    """There are fewer free cells than new blocks."""


class BookFull(Refused):
    """The book would have too many numbers."""


class NoElder(Refused):
    """There is no elder to go back to."""


class NoPool(Refused):
    """No drive has a whole head."""


class Broken(Refused):
    """A block fits on no drive."""


class LastDrive(Refused):
    """It is the only drive that is on."""


class AlreadyOff(Refused):
    """The drive is off."""


class AlreadyOn(Refused):
    """The drive is on."""


class TooMany(Refused):
    """There are too many snapshots to search among."""


class BadLine(Refused):
    """A line of words is none of the reader's."""
