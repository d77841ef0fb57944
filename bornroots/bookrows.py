"""The numbers of a book, and the pages on which they are told (point 3 of the document)."""

from bornroots.errors import BookFull
from bornroots.layout import PAGES
from bornroots.namecodes import name_number, name_of
from bornroots.roots import Book, Root, Volume

PAGE_NUMBERS = 60
VOLUME_NUMBERS = 3
ROOT_NUMBERS = 10


def book_numbers(book):
    """The tuple of the numbers of a book."""
    numbers = [book.next_id, len(book.volumes), len(book.roots)]
    for head in sorted(book.volumes):
        volume = book.volumes[head]
        numbers.extend((name_number(volume.name), volume.quota, volume.head))
    for ident in sorted(book.roots):
        numbers.extend(_root_numbers(book.roots[ident]))
    return tuple(numbers)


def book_of(numbers):
    """The book with these numbers."""
    book = Book()
    book.next_id, volumes, roots = numbers[:3]
    at = 3
    for _ in range(volumes):
        code, quota, head = numbers[at:at + VOLUME_NUMBERS]
        book.volumes[head] = Volume(name_of(code), quota, head)
        at += VOLUME_NUMBERS
    for _ in range(roots):
        root = _root_at(numbers, at)
        book.roots[root.ident] = root
        at += ROOT_NUMBERS + 2 * len(root.dead)
    return book


def pages_of(numbers):
    """The list of the tuples of numbers, one for each page."""
    return [tuple(numbers[at:at + PAGE_NUMBERS]) for at in range(0, len(numbers), PAGE_NUMBERS)]


def need_fitting(book):
    """Raise BookFull(how many numbers) if the pages of an area cannot hold the book."""
    many = len(book_numbers(book))
    if many > PAGES * PAGE_NUMBERS:
        raise BookFull(many)


def _root_numbers(root):
    code = 0 if root.snap is None else name_number(root.snap)
    numbers = [root.ident, root.volume, code, root.prev, root.time, *root.mark, *root.top, len(root.dead)]
    for pair in root.dead:
        numbers.extend(pair)
    return numbers


def _root_at(numbers, at):
    ident, volume, code, prev, time, tag, number, address, birth, many = numbers[at:at + ROOT_NUMBERS]
    begin = at + ROOT_NUMBERS
    dead = [(numbers[i], numbers[i + 1]) for i in range(begin, begin + 2 * many, 2)]
    snap = None if code == 0 else name_of(code)
    return Root(ident, volume, snap, prev, time, (tag, number), (address, birth), dead)
