"""The state of a pool (points 7 and 7.1 of the document)."""

from bornroots.errors import Off


class Pool:
    """A pool on its drives: its root, its elder or None, its last given number, and its open deeds."""

    def __init__(self, drives, tag, root, elder, last):
        self.drives = drives
        self.tag = tag
        self.owner = drives.owner()
        self.root = root
        self.elder = elder
        self.last = last
        self.opened = []

    def need_running(self):
        """Raise Off(None) if the power is gone or the drives were started again."""
        if not self.drives.has_power() or self.drives.owner() != self.owner:
            raise Off(None)

    def records_of(self, root):
        """The records that looks at a root of the book see."""
        records = self.root.trees[root.ident].records
        for ident, told in self.opened:
            if ident == root.ident:
                records = told
        return dict(records)
