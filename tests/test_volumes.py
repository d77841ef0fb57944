import unittest

from bornroots.bookrows import book_numbers
from bornroots.commit import commit
from bornroots.desk import make_file, write
from bornroots.drives import Drives
from bornroots.mount import made_pool, mount
from bornroots.snapshots import clone, rollback, snapshot
from bornroots.views import names, read
from bornroots.volumes import destroy, make_volume, set_quota

from books import seen
from pools import check_pool, contents, example_pool, filled
from refusals import refusal
from rootdeeds import NO_NAMES, Case, used_of


class MakeTest(Case):
    def test_a_new_volume(self):
        pool = made_pool(Drives(2, 40), tag=7)
        begun = pool.drives.begun()
        self.assertEqual(make_volume(pool, "a"), 1)
        self.assertEqual(book_numbers(pool.root.book), (2, 1, 1, 1, 0, 1, 1, 1, 0, 0, 0, 0, 0, 44, 2, 0))
        self.assertEqual((pool.root.number, pool.root.used, pool.drives.begun() - begun),
                         (2, {41: 2, 42: 2, 43: 2, 44: 2}, 12))
        self.assertEqual(contents(pool), {"a": {0: (2, 0)}})
        self.assertEqual(make_volume(pool, "zzzz", quota=1000), 2)
        volume = pool.root.book.volumes[2]
        self.assertEqual((volume.name, volume.quota, volume.head), ("zzzz", 1000, 2))
        check_pool(self, pool)

    def test_quotas(self):
        for quota in (0, 4, 5, 1000):
            self.assertEqual(make_volume(made_pool(Drives(1, 8)), "a", quota=quota), 1)
        for quota in (1, 2, 3):
            self.refused(made_pool(Drives(1, 8)), ("Quota", "a"), make_volume, "a", quota=quota)
        for quota in (-1, 1001):
            self.refused(made_pool(Drives(1, 8)), ("BadNumber", quota), make_volume, "a", quota=quota)

    def test_room_for_four_blocks_and_for_three(self):
        for room, expected in ((14, None), (13, ("NoRoom", 4))):
            pool = made_pool(Drives(1, room))
            make_volume(pool, "a")
            make_file(pool, "a", "/f")
            commit(pool)
            self.assertEqual(len({**pool.root.used, **pool.elder.used}), 10)
            if expected:
                self.refused(pool, expected, make_volume, "b")
                # Behind a commit the three blocks that waited are free.
                commit(pool, always=True)
            self.assertEqual(make_volume(pool, "b"), 2)
            check_pool(self, pool)

    def test_room_is_judged_behind_the_open_deeds(self):
        # The open deed takes five of the cells, and the waiting three are free behind it.
        for room, expected in ((16, None), (15, ("NoRoom", 4))):
            pool = made_pool(Drives(1, room))
            make_volume(pool, "a")
            make_file(pool, "a", "/f")
            commit(pool)
            write(pool, "a", "/f", 0, [1])
            if expected:
                self.refused(pool, expected, make_volume, "b")
            else:
                make_volume(pool, "b")
                check_pool(self, pool)

    def test_book_full(self):
        for numbers, expected in ((587, None), (588, ("BookFull", 601)), (600, ("BookFull", 613))):
            pool = example_pool()
            pool.root = filled(pool.root, numbers)
            if expected:
                self.refused(pool, expected, make_volume, "b")
            else:
                make_volume(pool, "b")
                self.assertEqual(len(book_numbers(pool.root.book)), 600)
                self.assertEqual(seen(mount(pool.drives).root.book), seen(pool.root.book))

    def test_book_full_behind_open_deeds(self):
        # Four pairs join the dead list of the open deed.
        for numbers, expected in ((579, None), (580, ("BookFull", 601))):
            pool = example_pool(snap=True)
            pool.root = filled(pool.root, numbers)
            write(pool, "a", "/f", 0, [5])
            self.assertEqual(refusal(make_volume, pool, "b"), expected)

    def test_refusals_in_their_order(self):
        pool = example_pool()
        pool.root = filled(pool.root, 600)
        pool.drives.arm(1, 0)
        for name in NO_NAMES:
            self.refused(pool, ("BadName", name), make_volume, name, quota=1001)
        self.refused(pool, ("BadNumber", 1001), make_volume, "a", quota=1001)
        self.refused(pool, ("Taken", "a"), make_volume, "a", quota=3)
        self.refused(pool, ("Quota", "b"), make_volume, "b", quota=3)
        self.refused(pool, ("BookFull", 613), make_volume, "b", quota=4)
        pool = made_pool(Drives(1, 8))
        make_volume(pool, "a")
        make_volume(pool, "b")
        pool.root = filled(pool.root, 600)
        self.refused(pool, ("Quota", "c"), make_volume, "c", quota=1)
        self.refused(pool, ("NoRoom", 4), make_volume, "c", quota=4)
        self.off(make_volume, "A", quota=-1)
        self.off(make_volume, "b")

    def test_behind_open_deeds(self):
        pool, told = self.behind_open(make_volume, "b")
        self.assertEqual((told, contents(pool)["b"]), (3, {0: (2, 0)}))
        for expected, given, quota in ((("Taken", "a"), "a", 0), (("Quota", "b"), "b", 2), (("BadName", "B"), "B", 0)):
            self.refused_behind_open(expected, make_volume, given, quota=quota)

    def test_a_name_may_be_used_again(self):
        pool = example_pool()
        destroy(pool, "a")
        self.assertEqual((make_volume(pool, "a"), names(pool, "a", "/")), (2, []))

    def test_quota_by_name_alone(self):
        self.assertRaises(TypeError, make_volume, made_pool(Drives(1, 8)), "a", 4)


class QuotaTest(Case):
    def test_it_is_set(self):
        pool = example_pool(snap=True)
        used, begun = dict(pool.root.used), pool.drives.begun()
        self.assertIsNone(set_quota(pool, "a", 100))
        self.assertEqual((pool.root.book.volumes[1].quota, pool.root.number, pool.root.used), (100, 5, used))
        self.assertEqual(pool.drives.begun() - begun, 2)
        self.assertEqual(mount(pool.drives).root.book.volumes[1].quota, 100)

    def test_at_the_very_use_and_one_below(self):
        pool = example_pool(written=True)
        for quota in (12, 13, 1000, 0):
            set_quota(pool, "a", quota)
            self.assertEqual(pool.root.book.volumes[1].quota, quota)
        for quota in (11, 1):
            self.refused(pool, ("Quota", "a"), set_quota, "a", quota)
        self.assertEqual(pool.root.book.volumes[1].quota, 0)

    def test_it_binds_from_then_on(self):
        pool = example_pool(written=True)
        set_quota(pool, "a", 12)
        self.refused(pool, ("Quota", "a"), make_file, "a", "/g")
        write(pool, "a", "/f", 0, [6])
        # Another file is four blocks more: a leaf of the folder, node 2 and its leaf, and node 0 anew.
        set_quota(pool, "a", 16)
        make_file(pool, "a", "/g")
        check_pool(self, pool)

    def test_the_use_behind_open_deeds(self):
        pool = example_pool(snap=True)
        write(pool, "a", "/f", 0, [5])
        self.refused(pool, ("Quota", "a"), set_quota, "a", 11)
        set_quota(pool, "a", 12)
        self.assertEqual((pool.root.number, used_of(pool, "a")), (6, 12))
        check_pool(self, pool)

    def test_refusals_in_their_order(self):
        pool = example_pool(snap=True)
        for name in NO_NAMES:
            self.refused(pool, ("BadName", name), set_quota, name, 1001)
        for vol in ("a", "b"):
            for quota in (-1, 1001):
                self.refused(pool, ("BadNumber", quota), set_quota, vol, quota)
        self.refused(pool, ("NoVolume", "b"), set_quota, "b", 1)
        self.refused(pool, ("Quota", "a"), set_quota, "a", 6)
        self.off(set_quota, "A", -1)
        self.off(set_quota, "a", 0)

    def test_behind_open_deeds(self):
        pool, told = self.behind_open(set_quota, "a", 500)
        self.assertEqual((told, pool.root.book.volumes[1].quota, pool.elder.book.volumes[1].quota), (None, 500, 0))
        self.refused_behind_open(("Quota", "a"), set_quota, "a", 1)
        self.refused_behind_open(("NoVolume", "b"), set_quota, "b", 1)


class DestroyTest(Case):
    def test_a_volume(self):
        pool = example_pool()
        begun = pool.drives.begun()
        self.assertEqual(destroy(pool, "a"), 7)
        self.assertEqual((book_numbers(pool.root.book), pool.root.used, pool.root.trees), ((2, 0, 0), {}, {}))
        self.assertEqual(pool.drives.begun() - begun, 2)
        check_pool(self, pool)
        self.refused(pool, ("NoVolume", "a"), destroy, "a")
        self.assertEqual((make_volume(pool, "a"), contents(mount(pool.drives))), (2, {"a": {0: (2, 0)}}))

    def test_of_several(self):
        pool = example_pool()
        make_volume(pool, "b")
        self.assertEqual(destroy(pool, "a"), 7)
        self.assertEqual(contents(pool), {"b": {0: (2, 0)}})
        check_pool(self, pool)

    def test_its_cells_are_free_two_transactions_later(self):
        pool = made_pool(Drives(1, 8))
        make_volume(pool, "a")
        make_volume(pool, "b")
        self.assertEqual(destroy(pool, "a"), 4)
        self.refused(pool, ("NoRoom", 4), make_volume, "c")
        commit(pool, always=True)
        make_volume(pool, "c")
        self.assertEqual(sorted(pool.root.used), list(range(41, 49)))

    def test_a_clone_lets_go_of_what_it_wrote_alone(self):
        pool = example_pool(snap=True)
        clone(pool, "a@s", "b")
        self.assertEqual((used_of(pool, "b"), destroy(pool, "b")), (0, 0))
        clone(pool, "a@s", "b")
        write(pool, "b", "/f", 0, [1])
        commit(pool)
        told, used = contents(pool), used_of(pool, "b")
        self.assertEqual((used, destroy(pool, "b")), (5, 5))
        del told["b"]
        self.assertEqual(contents(pool), told)
        check_pool(self, pool)
        self.assertEqual(sorted(pool.root.used), [41, 45, 46, 47, 48, 49, 50])

    def test_refusals_in_their_order(self):
        pool = example_pool(snap=True)
        for name in NO_NAMES:
            self.refused(pool, ("BadName", name), destroy, name)
        self.refused(pool, ("NoVolume", "b"), destroy, "b")
        self.refused(pool, ("HasSnaps", "a"), destroy, "a")
        clone(pool, "a@s", "b")
        self.refused(pool, ("HasSnaps", "a"), destroy, "a")
        snapshot(pool, "b", "s")
        self.refused(pool, ("HasSnaps", "b"), destroy, "b")
        self.off(destroy, "A")
        self.off(destroy, "a")

    def test_behind_open_deeds(self):
        pool = example_pool()
        write(pool, "a", "/f", 0, [5])
        # The file's value is committed first: eight pairs are let go then.
        self.assertEqual(destroy(pool, "a"), 8)
        self.assertEqual((pool.root.number, pool.elder.number, sorted(pool.elder.trees)), (5, 4, [1]))
        check_pool(self, pool)
        self.refused_behind_open(("HasSnaps", "a"), destroy, "a")
        self.refused_behind_open(("NoVolume", "b"), destroy, "b")

    def test_letting_go_needs_no_room(self):
        pool = made_pool(Drives(1, 8))
        make_volume(pool, "a")
        make_volume(pool, "b")
        self.assertEqual((destroy(pool, "b"), destroy(pool, "a")), (4, 4))
        check_pool(self, pool)


class ArgumentsTest(Case):
    def test_a_volume_is_a_new_one_in_each_book(self):
        pool = example_pool()
        elder = pool.root
        before = seen(elder.book)
        set_quota(pool, "a", 9)
        make_volume(pool, "b")
        rollbacks = refusal(rollback, pool, "a")
        self.assertEqual((rollbacks, seen(elder.book)), (("NoSnap", "a"), before))
        self.assertEqual(read(pool, "a", "/f", 0, 1), [])


if __name__ == "__main__":
    unittest.main()
