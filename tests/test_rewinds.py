import copy
import unittest

from bornroots.commit import commit
from bornroots.desk import make_file, write
from bornroots.drives import Drives
from bornroots.drops import drop
from bornroots.faults import rot, wipe
from bornroots.mount import made_pool, mount
from bornroots.rewinds import rewind
from bornroots.roomtold import room
from bornroots.snapshots import snapshot
from bornroots.views import read
from bornroots.volumes import destroy, make_volume, set_quota

from books import seen
from pools import Told, all_seen, check_pool, contents, example_pool, standing_seen
from rawpool import check_answers
from rootdeeds import Case


class RewindTest(Case):
    def test_there_and_back(self):
        pool = example_pool(many=2, written=True)
        root, elder = standing_seen(pool.root), standing_seen(pool.elder)
        begun = pool.drives.begun()
        self.assertEqual(rewind(pool), 6)
        self.assertEqual(standing_seen(pool.root), (6, 2, 5, *elder[3:]))
        self.assertEqual(standing_seen(pool.elder), root)
        self.assertEqual((read(pool, "a", "/f", 0, 9), pool.drives.begun() - begun, pool.last), ([], 4, 6))
        self.assertEqual(room(pool), (7, 5, 28))
        check_pool(self, pool)
        check_answers(self, pool)
        again = mount(pool.drives)
        self.assertEqual((standing_seen(again.root), standing_seen(again.elder)),
                         (standing_seen(pool.root), standing_seen(pool.elder)))
        self.assertEqual(rewind(again), 7)
        self.assertEqual(standing_seen(again.root), (7, 0, 6, *root[3:]))
        self.assertEqual(standing_seen(again.elder)[3:], elder[3:])
        check_pool(self, again)
        for number in range(8, 12):
            self.assertEqual(rewind(again), number)
            self.assertEqual(read(again, "a", "/f", 0, 9), [] if number % 2 == 0 else [5])

    def test_the_rows_that_are_put(self):
        pool = example_pool(written=True)
        told = Told(pool.drives)
        rewind(pool)
        self.assertEqual([line if line == "flush" else (line[0], line[1][2]) for line in told.lines],
                         [(23, 6), "flush", (22, 6), "flush"])
        self.assertEqual(pool.drives.cell(0, 22)[4:9], (7, 1, 40, 5, 1))

    def test_with_open_deeds(self):
        pool = example_pool(snap=True)
        root = standing_seen(pool.root)
        write(pool, "a", "/f", 0, [5])
        make_file(pool, "a", "/g")
        self.assertEqual(rewind(pool), 6)
        self.assertEqual(standing_seen(pool.root), (6, 2, 5, *root[3:]))
        self.assertEqual((pool.elder.number, pool.elder.ahead, pool.opened, pool.last), (5, 4, [], 6))
        self.assertEqual(contents(pool)["a"], contents(pool)["a@s"])
        check_pool(self, pool)
        check_answers(self, pool)
        self.assertEqual((rewind(pool), read(pool, "a", "/f", 0, 9), read(pool, "a", "/g", 0, 9)), (7, [5], []))
        check_pool(self, pool)

    def test_with_an_open_deed_that_changes_no_record(self):
        pool = example_pool(snap=True)
        write(pool, "a", "/f", 0, [5])
        commit(pool)
        write(pool, "a", "/f", 0, [5])
        self.assertEqual((rewind(pool), read(pool, "a", "/f", 0, 9)), (7, [5]))

    def test_no_elder(self):
        pool = made_pool(Drives(1, 40))
        self.refused(pool, ("NoElder", 1), rewind)
        make_volume(pool, "a")
        self.assertEqual((rewind(pool), contents(pool)), (3, {}))
        self.assertEqual((rewind(pool), contents(pool)), (4, {"a": {0: (2, 0)}}))
        # A mount may not find the elder; the number is that of the root by then.
        rot(pool.drives, 0, 11 * pool.elder.area, 0, 1)
        pool = mount(pool.drives)
        self.refused(pool, ("NoElder", 4), rewind)
        make_file(pool, "a", "/f")
        self.assertEqual((rewind(pool), contents(pool)), (6, {"a": {0: (2, 0)}}))

    def test_a_mount_that_settles_has_an_elder(self):
        pool = example_pool(snap=True)
        write(pool, "a", "/f", 0, [5])
        pool = mount(pool.drives)
        self.assertEqual((pool.root.number, rewind(pool), read(pool, "a", "/f", 0, 9)), (5, 6, []))

    def test_idents_are_used_again(self):
        pool = example_pool()
        self.assertEqual((snapshot(pool, "a", "s"), pool.root.book.next_id), (2, 3))
        rewind(pool)
        self.assertEqual(pool.root.book.next_id, 2)
        self.assertEqual((make_volume(pool, "b"), snapshot(pool, "a", "t")), (2, 3))
        self.assertEqual(pool.root.book.roots[3].mark, (7, 7))
        check_pool(self, pool)
        check_answers(self, pool)

    def test_what_was_let_go_comes_back(self):
        for deed, given in ((drop, "a@s"), (destroy, "a")):
            pool = example_pool(written=True)
            if deed is destroy:
                drop(pool, "a@s")
            before, told = seen(pool.root.book), contents(pool)
            deed(pool, given)
            self.assertNotEqual(contents(pool), told)
            rewind(pool)
            self.assertEqual((seen(pool.root.book), contents(pool)), (before, told))
            check_pool(self, pool)
            check_answers(self, pool)

    def test_quotas_come_back(self):
        pool = example_pool(written=True)
        set_quota(pool, "a", 50)
        rewind(pool)
        self.assertEqual(pool.root.book.volumes[1].quota, 0)
        rewind(pool)
        self.assertEqual(pool.root.book.volumes[1].quota, 50)

    def test_broken(self):
        # The elder (transaction 4) has the cells 41 and 45 to 50, the root 41, 45, 46 and 42 to 44, 51, 52.
        for cell, expected in ((41, 41), (45, 45), (47, 47), (50, 50), (43, None), (44, None), (52, None)):
            pool = example_pool(written=True)
            rot(pool.drives, 0, cell, 3, 1)
            if expected:
                self.refused(pool, ("Broken", expected), rewind)
            else:
                rewind(pool)
                self.assertEqual(read(pool, "a", "/f", 0, 9), [])

    def test_the_least_of_several_and_nothing_beneath_a_lost_block(self):
        pool = example_pool(written=True)
        for cell in (47, 45):
            rot(pool.drives, 0, cell, 3, 1)
        self.refused(pool, ("Broken", 45), rewind)
        # 48 is the node above the leaf 47, 46 the one above 41 and 45.
        rot(pool.drives, 0, 46, 3, 1)
        self.refused(pool, ("Broken", 46), rewind)
        rot(pool.drives, 0, 49, 3, 1)
        self.refused(pool, ("Broken", 49), rewind)
        rot(pool.drives, 0, 50, 3, 1)
        self.refused(pool, ("Broken", 50), rewind)

    def test_broken_of_another_root_of_the_book(self):
        pool = example_pool(written=True)
        commit(pool, always=True)
        for cell, expected in ((47, 47), (52, 52)):
            other = copy.deepcopy(pool)
            rot(other.drives, 0, cell, 0, 5)
            self.refused(other, ("Broken", expected), rewind)
        rot(pool.drives, 0, 50, 0, 5)
        rot(pool.drives, 0, 51, 0, 5)
        self.refused(pool, ("Broken", 50), rewind)

    def test_only_drives_that_are_on_are_looked_at(self):
        pool = example_pool(many=3, written=True)
        for drive in (0, 1):
            rot(pool.drives, drive, 49, 3, 1)
        before = all_seen(pool)
        other = copy.deepcopy(pool)
        self.assertEqual(rewind(other), 6)
        pool.drives.turn(2, False)
        self.refused(pool, ("Broken", 49), rewind)
        self.assertEqual(all_seen(pool), before)
        # What is broken on the drive that is off alone is nobody's concern.
        other = example_pool(many=2, written=True)
        wipe(other.drives, 0)
        other.drives.turn(0, False)
        self.assertEqual(rewind(other), 6)

    def test_broken_goes_behind_no_elder_and_ahead_of_any_write(self):
        pool = made_pool(Drives(1, 40))
        pool.drives.arm(1, 0)
        self.refused(pool, ("NoElder", 1), rewind)
        pool = example_pool(snap=True)
        write(pool, "a", "/f", 0, [5])
        rot(pool.drives, 0, 41, 0, 1)
        pool.drives.arm(1, 0)
        self.refused(pool, ("Broken", 41), rewind)
        self.assertEqual((len(pool.opened), read(pool, "a", "/f", 0, 9)), (1, [5]))

    def test_with_open_deeds_the_root_is_looked_at_and_not_the_elder(self):
        pool = example_pool()
        destroy(pool, "a")
        make_volume(pool, "b")
        make_file(pool, "b", "/x")
        rot(pool.drives, 0, 50, 0, 1)
        self.assertEqual((rewind(pool), contents(pool)), (7, {"b": {0: (2, 0)}}))

    def test_off(self):
        self.off(rewind)


if __name__ == "__main__":
    unittest.main()
