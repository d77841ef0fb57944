"""What the rows on drives tell of a transaction, read without the package, and its questions answered by sets."""

from itertools import combinations

from bornroots.drops import handed_on
from bornroots.hits import hits
from bornroots.holders import holders, holders_right
from bornroots.intervals import least_drops
from bornroots.papers import letgo_paper, letgo_right, untouched_right
from bornroots.roomtold import free_cells, freed_by, freed_pairs, referred, room, unique, used, written
from bornroots.touched import differ, is_above, touched, touched_keys

from refusals import refusal

LETTERS = " abcdefghijklmnopqrstuvwxyz"
WIDTHS = (512, 64, 8, 1)


def word_of(code):
    return (word_of(code // 27) if code >= 27 else "") + LETTERS[code % 27]


def check(numbers):
    return sum(at * number for at, number in enumerate(numbers, 1)) % 1000003


def payload(drives, kind, place, number):
    """The payload of the row in a cell of any drive, which is to be good there."""
    for drive in range(drives.many):
        row = drives.cell(drive, place)
        if len(row) > 4 and row[:3] == (kind, place, number) and row[-1] == check(row[:-1]) and row[3] == len(row) - 5:
            return row[4:-1]
    return None


class Raw:
    """A transaction; of its roots, by ident, the fields, the blocks (pair to (level, number)), the records."""

    def __init__(self, drives, number, area):
        self.room, self.number = drives.room, number
        self.tag, _, _, self.ahead, pages = payload(drives, 1, 11 * area, number)
        numbers = [told for at in range(pages) for told in payload(drives, 2, 11 * area + 1 + at, number)]
        self.next_id, volumes, roots, *numbers = numbers
        self.volumes, self.roots, self.blocks, self.records = {}, {}, {}, {}
        for at in range(0, 3 * volumes, 3):
            self.volumes[numbers[at + 2]] = (word_of(numbers[at]), numbers[at + 1])
        numbers = numbers[3 * volumes:]
        for _ in range(roots):
            ident, volume, snap, prev, time, tag, mark, address, birth, many, *numbers = numbers
            dead = list(zip(numbers[:2 * many:2], numbers[1:2 * many:2]))
            numbers = numbers[2 * many:]
            name = self.volumes[volume][0] + ("@" + word_of(snap) if snap else "")
            self.roots[ident] = {"volume": volume, "prev": prev, "time": time, "mark": (tag, mark), "dead": dead,
                                 "text": name, "top": (address, birth)}
            self.blocks[ident], self.records[ident] = {}, {}
            self.walk(drives, ident, 0, 0, (address, birth))
        assert not numbers

    def walk(self, drives, ident, level, number, pair):
        if pair == (0, 0):
            return
        told = payload(drives, 5 if level == 3 else 4, *pair)
        self.blocks[ident][pair] = (level, number)
        if level == 3:
            self.records[ident][number] = told
        else:
            for at in range(8):
                self.walk(drives, ident, level + 1, 8 * number + at, told[2 * at:2 * at + 2])

    def ident(self, text):
        return next(ident for ident, root in self.roots.items() if root["text"] == text)

    def children(self, ident):
        return [child for child in sorted(self.roots) if self.roots[child]["prev"] == ident]

    def chain(self, head):
        """The snapshots of a volume by time, then its head."""
        idents = [ident for ident, root in self.roots.items() if root["volume"] == head]
        return sorted(idents, key=lambda ident: self.roots[ident]["time"] or 2 ** 30)

    def droppable(self):
        """The snapshots with just one child."""
        return [ident for ident in sorted(self.roots) if self.roots[ident]["time"] and len(self.children(ident)) == 1]

    def is_above(self, high, low):
        while low:
            low = self.roots[low]["prev"]
            if low == high:
                return True
        return False

    def edge(self, ident):
        prev = self.roots[ident]["prev"]
        return self.roots[prev]["time"] if prev else 0

    def pairs(self, idents):
        return {pair for ident in idents for pair in self.blocks[ident]}

    def cells(self):
        return {address for address, _ in self.pairs(self.roots)}

    def written(self, ident):
        return [pair for pair in self.blocks[ident] if pair[1] > self.edge(ident)]

    def freed(self, idents):
        return sorted(self.pairs(idents) - self.pairs(set(self.roots) - set(idents)))

    def holders(self, address):
        """The right paper of a cell, told by all walks."""
        for pair in self.pairs(self.roots):
            if pair[0] == address:
                idents = tuple(ident for ident in sorted(self.roots) if pair in self.blocks[ident])
                first = next(ident for ident in idents if self.roots[ident]["prev"] not in idents)
                level, number = self.blocks[first][pair]
                key = min(key for key in self.records[first] if key // WIDTHS[level] == number)
                return (*pair, key, level, first, idents)
        return None

    def is_held(self, paper):
        """Whether a holders paper says what is so."""
        address, birth, key, level, ident, idents = paper
        right = self.holders(address)
        if right is None or not 0 <= key < 512 or (birth, level, ident, idents) != (right[1], *right[3:]):
            return False
        return (level, key // WIDTHS[level]) == self.blocks[ident][address, birth]

    def hits(self, place):
        told = []
        for ident in sorted(self.roots):
            for (address, _), (level, number) in self.blocks[ident].items():
                if address == place:
                    width = WIDTHS[level]
                    told.append((self.roots[ident]["text"], width * number, width * number + width - 1))
        return tuple(told)

    def leaves(self, ident):
        return {number: pair for pair, (level, number) in self.blocks[ident].items() if level == 3}

    def touched(self, high, low):
        old, new = self.leaves(high), self.leaves(low)
        return [key for key in range(512) if old.get(key) != new.get(key)]

    def differ(self, one, other):
        return tuple((key, self.records[one].get(key, ()), self.records[other].get(key, ()))
                     for key in self.touched(one, other))

    def least_drops(self, head, wanted):
        snaps = [ident for ident in self.chain(head) if ident in self.droppable()]
        found = [choice for many in range(len(snaps) + 1) for choice in combinations(range(len(snaps)), many)
                 if len(self.freed([snaps[at] for at in choice])) >= wanted]
        if not found:
            return None
        best = min(found, key=lambda choice: (len(choice), choice))
        return (len(best), tuple(self.roots[snaps[at]]["text"].partition("@")[2] for at in best))


def raws_of(pool):
    """The Raw of the root and that of the elder (None without one)."""
    root = Raw(pool.drives, pool.root.number, pool.root.area)
    elder = Raw(pool.drives, root.ahead, (pool.root.area + 2) % 3) if pool.elder else None
    return root, elder




def check_facts(test, raw):
    """The two facts of point 9, of each root."""
    for ident, root in raw.roots.items():
        own, ahead = set(raw.blocks[ident]), set(raw.blocks[root["prev"]]) if root["prev"] else set()
        test.assertEqual(root["dead"], sorted(ahead - own))
        test.assertEqual({pair for pair in own if pair[1] <= raw.edge(ident)}, own & ahead)


def check_answers(test, pool):
    """Every answer of points 10, 11 and of the drops to come, against walks over all trees."""
    raw, elder = raws_of(pool)
    check_facts(test, raw)
    check_room(test, pool, raw, elder)
    check_roots(test, pool, raw)
    check_ways(test, pool, raw)
    return raw


def check_room(test, pool, raw, elder):
    cells, kept = raw.cells(), elder.cells() if elder else set()
    free = tuple(cell for cell in range(41, 41 + raw.room) if cell not in cells | kept)
    test.assertEqual(room(pool), (len(cells), len(kept - cells), len(free)))
    test.assertEqual(free_cells(pool), free)
    volumes = {name: sum(len(raw.written(ident)) for ident in raw.chain(head))
               for head, (name, _) in raw.volumes.items()}
    test.assertEqual({name: used(pool, name) for name in volumes}, volumes)
    test.assertEqual(sum(volumes.values()), len(cells))
    test.assertTrue(all(quota == 0 or volumes[name] <= quota for name, quota in raw.volumes.values()))


def check_roots(test, pool, raw):
    texts = {ident: root["text"] for ident, root in raw.roots.items()}
    for ident, text in texts.items():
        test.assertEqual(referred(pool, text), len(raw.blocks[ident]))
        test.assertEqual(written(pool, text), len(raw.written(ident)))
        test.assertEqual(unique(pool, text), len(raw.freed([ident])))
        test.assertEqual(freed_pairs(pool.root, [ident]), raw.freed([ident]))
    for ident in raw.droppable():
        gone, dead = handed_on(pool.root.book, pool.root.book.roots[ident])
        child = raw.children(ident)[0]
        prev = raw.roots[ident]["prev"]
        test.assertEqual(gone, tuple(raw.freed([ident])))
        test.assertEqual(dead, tuple(sorted(set(raw.blocks.get(prev, ())) - set(raw.blocks[child]))))
    for many in (0, 2, len(texts)):
        for idents in list(combinations(sorted(texts), many))[:40]:
            test.assertEqual(freed_by(pool, [texts[ident] for ident in idents]), len(raw.freed(idents)))
    for head, (name, _) in raw.volumes.items():
        whole = len(raw.freed([ident for ident in raw.chain(head) if ident in raw.droppable()]))
        for wanted in {0, 1, 3, whole // 2, whole, whole + 1}:
            test.assertEqual(least_drops(pool, name, wanted), raw.least_drops(head, wanted))


def check_ways(test, pool, raw):
    """What is told of any two roots."""
    roots = pool.root.book.roots
    for one in raw.roots:
        for other in raw.roots:
            texts = (raw.roots[one]["text"], raw.roots[other]["text"])
            test.assertEqual(is_above(pool.root.book, roots[one], roots[other]), raw.is_above(one, other))
            test.assertEqual(differ(pool, *texts), raw.differ(one, other))
            if one == other or raw.is_above(one, other):
                test.assertEqual(touched(pool, *texts), tuple(raw.touched(one, other)))
                test.assertEqual(touched_keys(pool.root, roots[one], roots[other]), raw.touched(one, other))
            else:
                test.assertEqual(refusal(touched, pool, *texts), ("NoBase", texts[0]))


def check_papers(test, pool, chance):
    """Every answer of points 12.4 and 13, and that papers are right exactly if what they say is so."""
    raw = raws_of(pool)[0]
    cells = raw.cells()
    for place in range(41, 41 + raw.room):
        if place not in cells:
            test.assertEqual((hits(pool, place), holders(pool, place)), ((), None))
    for place in chance.sample(sorted(cells), min(12, len(cells))):
        test.assertEqual(hits(pool, place), raw.hits(place))
        paper = raw.holders(place)
        test.assertEqual(holders(pool, place), paper)
        test.assertIs(holders_right(pool, paper), True)
        for other in [*like_holders(paper, sorted(raw.roots)), *[some_change(chance, paper) for _ in range(6)]]:
            test.assertIs(holders_right(pool, other), raw.is_held(other), (paper, other))
    for ident in [0, max(raw.roots, default=0) + 1, *raw.roots]:
        check_letgo(test, pool, raw, ident, chance)
    for one in raw.roots:
        for other in raw.roots:
            goes = one == other or raw.is_above(one, other)
            still = set(range(512)) - set(raw.touched(one, other)) if goes else set()
            for key in {*chance.sample(range(512), 8), -1, 0, 7, 8, 9, 511, 512, *raw.touched(one, other)}:
                test.assertIs(untouched_right(pool, (one, other, key)), key in still, (one, other, key))


def like_holders(paper, roots):
    """Papers that are a holders paper but for one part."""
    address, birth, key, level, ident, idents = paper
    told = []
    for number in (address - 1, address + 1, -1, 0, 10 ** 9):
        told.append((number, birth, key, level, ident, idents))
    for number in (birth - 1, birth + 1, -1, 0, 10 ** 9):
        told.append((address, number, key, level, ident, idents))
    for number in (key - 1, key + 1, key + 7, key + 8, key + 64, 0, -1, 511, 512, 10 ** 9):
        told.append((address, birth, number, level, ident, idents))
    for number in (level - 1, level + 1, -1, 0, 3, 4, 10 ** 9):
        told.append((address, birth, key, number, ident, idents))
    for number in (0, -1, 10 ** 9, *roots):
        told.append((address, birth, key, level, number, idents))
    for many in range(len(idents)):
        told.append((address, birth, key, level, ident, (*idents[:many], *idents[many + 1:])))
        told.append((address, birth, key, level, ident, (*idents[:many], idents[many], *idents[many:])))
    told += [(address, birth, key, level, ident, idents[::-1]), (address, birth, key, level, ident, ())]
    for more in (0, -1, 10 ** 9, *roots):
        told.append((address, birth, key, level, ident, tuple(sorted({*idents, more}))))
    return told


def some_change(chance, paper):
    """A paper with some of its parts changed by chance."""
    told = list(paper)
    for at in chance.sample(range(5), chance.randint(1, 3)):
        told[at] += chance.choice([-8, -1, 0, 0, 1, 8])
    told[5] = tuple(sorted(chance.sample(range(12), chance.randint(1, 4)))) if chance.random() < 0.3 else told[5]
    return tuple(told)


def check_letgo(test, pool, raw, ident, chance):
    if ident not in raw.droppable():
        for pairs in ((), tuple(raw.freed([ident]) if ident in raw.roots else ())):
            test.assertIs(letgo_right(pool, (ident, pairs)), False)
        return
    pairs = tuple(raw.freed([ident]))
    test.assertEqual(letgo_paper(pool, raw.roots[ident]["text"]), (ident, pairs))
    test.assertIs(letgo_right(pool, (ident, pairs)), True)
    for other in like_pairs(pairs, sorted(raw.pairs(raw.roots)), chance):
        test.assertIs(letgo_right(pool, (ident, other)), other == pairs, other)


def like_pairs(pairs, every, chance):
    """Tuples of pairs that are these but for one thing."""
    told = [pairs[::-1], (*pairs, (0, 0)), (), tuple(sorted([*pairs, chance.choice(every)]))]
    for at, (address, birth) in enumerate(pairs[:6]):
        told += [(*pairs[:at], *pairs[at + 1:]), (*pairs[:at], pairs[at], *pairs[at:]),
                 (*pairs[:at], (address + 1, birth), *pairs[at + 1:]),
                 (*pairs[:at], (address, birth - 1), *pairs[at + 1:]), (*pairs[at:], *pairs[:at])]
    return told
