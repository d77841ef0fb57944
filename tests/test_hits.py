import random
import unittest

from bornroots.desk import write
from bornroots.drives import Drives
from bornroots.drops import drop
from bornroots.faults import rot
from bornroots.hits import hits
from bornroots.mount import mount
from bornroots.roomtold import free_cells
from bornroots.snapshots import clone, snapshot
from bornroots.volumes import destroy

from histories import Story
from pools import example_pool
from rawpool import check_papers, raws_of
from refusals import refusal
from rootdeeds import Case
from test_promotes import long_pool


class HitsTest(Case):
    def test_the_example(self):
        pool = example_pool(many=2, written=True)
        for place, expected in ((43, (("a", 9, 9),)), (44, (("a", 8, 15),)), (47, (("a@s", 8, 8),)),
                                (41, (("a", 0, 0), ("a@s", 0, 0)))):
            self.assertEqual(hits(pool, place), expected)

    def test_each_level_of_block(self):
        pool = example_pool(written=True)
        self.assertEqual([hits(pool, place) for place in (42, 45, 46, 49, 50, 51, 52)],
                         [(("a", 8, 8),), (("a", 7, 7), ("a@s", 7, 7)), (("a", 0, 7), ("a@s", 0, 7)),
                          (("a@s", 0, 63),), (("a@s", 0, 511),), (("a", 0, 63),), (("a", 0, 511),)])
        self.assertEqual([hits(pool, place) for place in free_cells(pool)], [()] * 28)

    def test_waiting_cells_are_not_hit(self):
        pool = example_pool(written=True)
        drop(pool, "a@s")
        self.assertEqual([hits(pool, place) for place in (47, 48, 49, 50)], [()] * 4)

    def test_several_roots_by_ident(self):
        pool = example_pool(written=True)
        clone(pool, "a@s", "b")
        snapshot(pool, "a", "a")
        self.assertEqual(hits(pool, 45), (("a", 7, 7), ("a@s", 7, 7), ("b", 7, 7), ("a@a", 7, 7)))
        self.assertEqual(hits(pool, 50), (("a@s", 0, 511), ("b", 0, 511)))
        pool = long_pool()
        check_papers(self, pool, random.Random(1))

    def test_open_deeds_do_not_count(self):
        pool = example_pool(written=True)
        write(pool, "a", "/f", 0, [6])
        self.assertEqual((hits(pool, 53), hits(pool, 43)), ((), (("a", 9, 9),)))

    def test_bounds(self):
        pool = example_pool(written=True)
        for place in (40, 81, 0, -1, 1000002, 33):
            self.refused(pool, ("BadNumber", place), hits, place)
        self.assertEqual((hits(pool, 41)[0][0], hits(pool, 80)), ("a", ()))
        self.off(hits, 40)
        self.off(hits, 41)

    def test_kinds(self):
        told = hits(example_pool(written=True), 41)
        self.assertEqual({type(told), *map(type, told)}, {tuple})


class LossTest(Case):
    def test_a_mount_is_broken_exactly_if_some_root_hits_the_lost_cell(self):
        pools = [long_pool(), example_pool(written=True)]
        story = Story(self, random.Random(8), Drives(1, 90))
        for _ in range(90):
            story.one()
        pools.append(story.pool)
        for pool in pools:
            drives = pool.drives
            pool = mount(drives)
            for place in range(41, 41 + drives.room):
                told, row = hits(pool, place), drives.cell(0, place)
                drives.lay(0, place, ())
                expected = ("Broken", place) if told else None
                self.assertEqual(refusal(mount, drives), expected)
                drives.lay(0, place, row)
                pool = mount(drives)

    def test_let_go_of_all_that_hit_it(self):
        pool = example_pool(written=True)
        rot(pool.drives, 0, 47, 0, 1)
        self.assertEqual(hits(pool, 47), (("a@s", 8, 8),))
        drop(pool, "a@s")
        self.assertEqual(hits(pool, 47), ())
        self.assertEqual(sorted(mount(pool.drives).root.book.roots), [1])

    def test_a_snapshot_with_two_children_holds_on(self):
        pool = example_pool(written=True)
        clone(pool, "a@s", "b")
        write(pool, "b", "/f", 0, [9])
        snapshot(pool, "b", "t")
        rot(pool.drives, 0, 47, 0, 1)
        self.assertEqual(hits(pool, 47), (("a@s", 8, 8),))
        self.refused(pool, ("Cloned", "a@s"), drop, "a@s")
        self.assertEqual(refusal(mount, pool.drives), ("Broken", 47))

    def test_raw(self):
        pool = long_pool()
        raw = raws_of(pool)[0]
        for place in range(41, 81):
            self.assertEqual(hits(pool, place), raw.hits(place))
        destroyed = example_pool()
        destroy(destroyed, "a")
        self.assertEqual([hits(destroyed, place) for place in range(41, 81)], [()] * 40)


if __name__ == "__main__":
    unittest.main()
