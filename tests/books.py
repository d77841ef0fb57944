"""Books for tests."""

from bornroots.roots import Book, Root, Volume

TOLD = (3, 1, 2, 1, 0, 1, 1, 1, 0, 2, 0, 0, 0, 52, 5, 4, 47, 3, 48, 3, 49, 3, 50, 3, 2, 1, 19, 0, 4, 7, 4, 50, 3, 0)


def book_with(next_id, volumes, roots):
    book = Book()
    book.next_id = next_id
    for name, quota, head in volumes:
        book.volumes[head] = Volume(name, quota, head)
    for fields in roots:
        book.roots[fields[0]] = Root(*fields)
    return book


def example_book():
    """The book of the example of point 3."""
    dead = ((47, 3), (48, 3), (49, 3), (50, 3))
    return book_with(3, [("a", 0, 1)], [(1, 1, None, 2, 0, (0, 0), (52, 5), dead),
                                        (2, 1, "s", 0, 4, (7, 4), (50, 3), ())])


def clone_book():
    """Volume a with the snapshots t and s (time 4 and 9), its clones b (of t, with a snapshot u) and c (of t), and d."""
    return book_with(12, [("d", 12, 10), ("a", 0, 1), ("b", 1000, 5), ("cc", 4, 7)], [
        (7, 7, None, 6, 0, (0, 0), (50, 3), ()),
        (1, 1, None, 2, 0, (0, 0), (60, 11), ((50, 3), (51, 3))),
        (2, 1, "s", 6, 9, (7, 9), (60, 5), ((44, 2),)),
        (6, 1, "t", 0, 4, (7, 4), (50, 3), ()),
        (5, 5, None, 8, 0, (0, 0), (0, 0), ()),
        (8, 5, "u", 6, 7, (999, 1000002), (70, 6), ()),
        (10, 10, None, 0, 0, (0, 0), (80, 10), ()),
    ])


def seen(book):
    """All that stands in a book, to compare."""
    volumes = {head: (it.name, it.quota, it.head) for head, it in book.volumes.items()}
    roots = {}
    for ident, it in book.roots.items():
        roots[ident] = (it.ident, it.volume, it.snap, it.prev, it.time, it.mark, it.top, it.dead)
    return (book.next_id, volumes, roots)


def idents(roots):
    return [root.ident for root in roots]
