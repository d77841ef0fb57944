import unittest

from bornroots.bookrows import book_numbers
from bornroots.commit import commit
from bornroots.desk import make_file, write
from bornroots.drives import Drives
from bornroots.mount import made_pool, mount
from bornroots.snapshots import clone, rollback, snapshot
from bornroots.space import free_places
from bornroots.views import names, read
from bornroots.volumes import destroy, make_volume, set_quota

from books import seen
from pools import check_pool, contents, example_pool, filled, head_root
from rootdeeds import NO_NAMES, Case, used_of

NO_ROOTS = ("", "@", "a@", "@s", "a@s@t", "abcde@s", "A", None, 7)


def rooms(pool):
    """How many cells the root reaches, how many the elder alone, how many neither."""
    alone = [cell for cell in pool.elder.used if cell not in pool.root.used]
    return (len(pool.root.used), len(alone), len(free_places(pool.drives.room, pool.root, pool.elder)))


class SnapshotTest(Case):
    def test_the_example(self):
        pool = example_pool()
        used, begun = dict(pool.root.used), pool.drives.begun()
        self.assertEqual(snapshot(pool, "a", "s"), 2)
        self.assertEqual(book_numbers(pool.root.book),
                         (3, 1, 2, 1, 0, 1, 1, 1, 0, 2, 0, 0, 0, 50, 3, 0, 2, 1, 19, 0, 4, 7, 4, 50, 3, 0))
        self.assertEqual((pool.root.number, pool.root.used, used_of(pool, "a")), (4, used, 7))
        self.assertEqual(pool.drives.begun() - begun, 2)
        check_pool(self, pool)
        write(pool, "a", "/f", 0, [5])
        commit(pool)
        self.assertEqual((book_numbers(pool.root.book)[13:24], rooms(pool)),
                         ((52, 5, 4, 47, 3, 48, 3, 49, 3, 50, 3), (12, 0, 28)))

    def test_the_dead_list_goes_to_the_snapshot(self):
        pool = example_pool(written=True)
        dead = head_root(pool, "a").dead
        self.assertEqual(snapshot(pool, "a", "t"), 3)
        roots = pool.root.book.roots
        self.assertEqual((roots[3].prev, roots[3].dead, roots[3].top, roots[3].time, roots[3].mark, roots[3].snap),
                         (2, dead, (52, 5), 6, (7, 6), "t"))
        self.assertEqual((roots[1].prev, roots[1].dead, roots[1].top), (3, (), (52, 5)))
        check_pool(self, pool)

    def test_of_an_unchanged_head(self):
        pool = example_pool(snap=True)
        for at in range(3):
            self.assertEqual(snapshot(pool, "a", "tuv"[at]), 3 + at)
            check_pool(self, pool)
        self.assertEqual([pool.root.book.roots[ident].prev for ident in (2, 3, 4, 5, 1)], [0, 2, 3, 4, 5])
        self.assertEqual(used_of(pool, "a"), 7)

    def test_a_name_of_another_volume_may_be_taken(self):
        pool = example_pool(snap=True)
        make_volume(pool, "s")
        self.assertEqual((snapshot(pool, "s", "s"), snapshot(pool, "s", "a")), (4, 5))
        check_pool(self, pool)

    def test_book_full(self):
        for numbers, expected in ((590, None), (591, ("BookFull", 601)), (600, ("BookFull", 610))):
            pool = example_pool()
            pool.root = filled(pool.root, numbers)
            if expected:
                self.refused(pool, expected, snapshot, "a", "s")
                self.refused(pool, ("NoVolume", "b"), snapshot, "b", "s")
            else:
                ident = snapshot(pool, "a", "s")
                self.assertEqual((ident, len(book_numbers(pool.root.book))), (pool.root.book.next_id - 1, 600))
                self.assertEqual(seen(mount(pool.drives).root.book), seen(pool.root.book))

    def test_refusals_in_their_order(self):
        pool = example_pool(snap=True)
        pool.root = filled(pool.root, 600)
        for name in NO_NAMES:
            self.refused(pool, ("BadName", name), snapshot, name, "S")
            self.refused(pool, ("BadName", name), snapshot, "a", name)
            self.refused(pool, ("BadName", name), snapshot, "b", name)
        self.refused(pool, ("NoVolume", "b"), snapshot, "b", "s")
        self.refused(pool, ("Taken", "s"), snapshot, "a", "s")
        self.refused(pool, ("BookFull", 610), snapshot, "a", "t")
        self.off(snapshot, "A", "S")
        self.off(snapshot, "a", "t")

    def test_behind_open_deeds(self):
        pool, told = self.behind_open(snapshot, "a", "t")
        self.assertEqual((told, read(pool, "a@t", "/f", 0, 9), read(pool, "a@s", "/f", 0, 9)), (3, [5], []))
        self.assertEqual((pool.root.book.roots[3].time, pool.root.book.roots[3].mark), (6, (7, 6)))
        self.refused_behind_open(("Taken", "s"), snapshot, "a", "s")
        self.refused_behind_open(("NoVolume", "b"), snapshot, "b", "s")

    def test_snapshots_stay_as_they_are(self):
        pool = made_pool(Drives(1, 200))
        make_volume(pool, "a")
        make_file(pool, "a", "/f")
        snapshot(pool, "a", "s")
        first = contents(pool)["a@s"]
        for at in range(12):
            write(pool, "a", "/f", 4 * at, [at + 1])
            make_file(pool, "a", "/" + "bcdeghijklmn"[at])
            if at % 3 == 0:
                snapshot(pool, "a", "t" + "abcdefghijkl"[at])
                check_pool(self, pool)
        self.assertEqual(contents(pool)["a@s"], first)
        self.assertEqual(contents(mount(pool.drives))["a@s"], first)


class CloneTest(Case):
    def test_a_clone(self):
        pool = example_pool(written=True)
        used, begun = dict(pool.root.used), pool.drives.begun()
        self.assertEqual(clone(pool, "a@s", "b"), 3)
        root, volume = pool.root.book.roots[3], pool.root.book.volumes[3]
        self.assertEqual((volume.name, volume.quota, volume.head), ("b", 0, 3))
        self.assertEqual((root.ident, root.volume, root.snap, root.prev, root.time, root.mark, root.top, root.dead),
                         (3, 3, None, 2, 0, (0, 0), (50, 3), ()))
        self.assertEqual((pool.root.used, used_of(pool, "b"), used_of(pool, "a")), (used, 0, 12))
        self.assertEqual(pool.drives.begun() - begun, 2)
        self.assertEqual(contents(pool)["b"], contents(pool)["a@s"])
        check_pool(self, pool)

    def test_a_clone_goes_its_own_way(self):
        pool = example_pool(snap=True)
        clone(pool, "a@s", "b")
        write(pool, "b", "/f", 0, [1])
        write(pool, "a", "/f", 0, [2])
        commit(pool)
        self.assertEqual([read(pool, root, "/f", 0, 9) for root in ("a", "b", "a@s")], [[2], [1], []])
        self.assertEqual((used_of(pool, "a"), used_of(pool, "b"), len(pool.root.used)), (12, 5, 17))
        check_pool(self, pool)
        write(pool, "b", "/f", 0, [3])
        commit(pool)
        self.assertEqual(used_of(pool, "b"), 5)
        check_pool(self, pool)

    def test_clones_of_snapshots_of_clones(self):
        pool = example_pool(snap=True)
        for at in range(4):
            old, new = "abcde"[at], "abcde"[at + 1]
            self.assertEqual(clone(pool, old + "@s", new), 3 + 2 * at)
            write(pool, new, "/f", at, [at + 1])
            self.assertEqual(snapshot(pool, new, "s"), 4 + 2 * at)
            check_pool(self, pool)
        self.assertEqual(read(pool, "e", "/f", 0, 9), [1, 2, 3, 4])
        self.assertEqual(read(pool, "c@s", "/f", 0, 9), [1, 2])
        self.assertEqual(sum(used_of(pool, vol) for vol in "abcde"), len(pool.root.used))
        self.assertEqual(contents(mount(pool.drives)), contents(pool))

    def test_quotas(self):
        for quota in (0, 1, 3, 1000):
            pool = example_pool(snap=True)
            clone(pool, "a@s", "b", quota=quota)
            self.assertEqual(pool.root.book.volumes[3].quota, quota)
        pool = example_pool(snap=True)
        clone(pool, "a@s", "b", quota=4)
        self.refused(pool, ("Quota", "b"), write, "b", "/f", 0, [1])
        set_quota(pool, "b", 5)
        write(pool, "b", "/f", 0, [1])
        check_pool(self, pool)

    def test_no_room_is_needed(self):
        pool = made_pool(Drives(1, 8))
        make_volume(pool, "a")
        snapshot(pool, "a", "s")
        make_volume(pool, "b")
        self.assertEqual((clone(pool, "a@s", "c"), len(pool.root.used)), (4, 8))
        check_pool(self, pool)

    def test_book_full(self):
        for numbers, expected in ((587, None), (588, ("BookFull", 601)), (600, ("BookFull", 613))):
            pool = example_pool(snap=True)
            pool.root = filled(pool.root, numbers)
            if expected:
                self.refused(pool, expected, clone, "a@s", "b")
            else:
                clone(pool, "a@s", "b")
                self.assertEqual(len(book_numbers(pool.root.book)), 600)

    def test_refusals_in_their_order(self):
        pool = example_pool(snap=True)
        pool.root = filled(pool.root, 600)
        for text in NO_ROOTS:
            self.refused(pool, ("BadName", text), clone, text, "B", quota=-1)
        for root in ("a@s", "a", "b", "a@t"):
            for name in NO_NAMES:
                self.refused(pool, ("BadName", name), clone, root, name, quota=-1)
            for quota in (-1, 1001):
                self.refused(pool, ("BadNumber", quota), clone, root, "a", quota=quota)
        self.refused(pool, ("NoVolume", "b"), clone, "b@s", "a")
        self.refused(pool, ("NoVolume", "b"), clone, "b", "a")
        self.refused(pool, ("NoRoot", "a@t"), clone, "a@t", "a")
        self.refused(pool, ("NoSnap", "a"), clone, "a", "a")
        self.refused(pool, ("Taken", "a"), clone, "a@s", "a")
        self.refused(pool, ("BookFull", 613), clone, "a@s", "b", quota=1)
        self.off(clone, "@", "B", quota=-1)
        self.off(clone, "a@s", "b")

    def test_behind_open_deeds(self):
        pool, told = self.behind_open(clone, "a@s", "b")
        self.assertEqual((told, read(pool, "b", "/f", 0, 9), read(pool, "a", "/f", 0, 9)), (3, [], [5]))
        self.refused_behind_open(("Taken", "a"), clone, "a@s", "a")
        self.refused_behind_open(("NoSnap", "a"), clone, "a", "b")

    def test_quota_by_name_alone(self):
        self.assertRaises(TypeError, clone, example_pool(snap=True), "a@s", "b", 4)


class RollbackTest(Case):
    def test_the_example(self):
        pool = example_pool(written=True)
        begun = pool.drives.begun()
        self.assertEqual(rollback(pool, "a"), 5)
        self.assertEqual((rooms(pool), read(pool, "a", "/f", 0, 9), pool.drives.begun() - begun), ((7, 5, 28), [], 2))
        head = head_root(pool, "a")
        self.assertEqual((head.ident, head.prev, head.top, head.dead, head.snap), (1, 2, (50, 3), (), None))
        check_pool(self, pool)
        self.assertEqual((rollback(pool, "a"), rooms(pool)), (0, (7, 0, 33)))

    def test_to_the_last_of_several_snapshots(self):
        pool = example_pool(written=True)
        snapshot(pool, "a", "t")
        write(pool, "a", "/f", 0, [6, 7])
        commit(pool)
        self.assertEqual((rollback(pool, "a"), read(pool, "a", "/f", 0, 9), names(pool, "a@t", "/")), (5, [5], ["f"]))
        check_pool(self, pool)

    def test_a_clone_goes_back_to_its_origin(self):
        pool = example_pool(snap=True)
        clone(pool, "a@s", "b")
        self.assertEqual(rollback(pool, "b"), 0)
        write(pool, "b", "/f", 0, [5])
        write(pool, "a", "/f", 0, [6])
        commit(pool)
        self.assertEqual((rollback(pool, "b"), used_of(pool, "b")), (5, 0))
        self.assertEqual((read(pool, "b", "/f", 0, 9), read(pool, "a", "/f", 0, 9)), ([], [6]))
        check_pool(self, pool)

    def test_no_room_is_needed(self):
        pool = made_pool(Drives(1, 15))
        make_volume(pool, "a")
        make_file(pool, "a", "/f")
        snapshot(pool, "a", "s")
        commit(pool, always=True)
        write(pool, "a", "/f", 0, [1])
        commit(pool)
        self.assertEqual(rollback(pool, "a"), 5)
        check_pool(self, pool)

    def test_refusals_in_their_order(self):
        pool = example_pool()
        for name in NO_NAMES:
            self.refused(pool, ("BadName", name), rollback, name)
        self.refused(pool, ("NoVolume", "b"), rollback, "b")
        self.refused(pool, ("NoSnap", "a"), rollback, "a")
        self.off(rollback, "A")
        self.off(rollback, "a")

    def test_behind_open_deeds(self):
        pool, told = self.behind_open(rollback, "a")
        self.assertEqual((told, read(pool, "a", "/f", 0, 9)), (5, []))
        self.assertEqual(rooms(pool), (7, 5, 28))
        self.refused_behind_open(("NoVolume", "b"), rollback, "b")
        pool = example_pool()
        write(pool, "a", "/f", 0, [5])
        self.refused(pool, ("NoSnap", "a"), rollback, "a")
        self.assertEqual(read(pool, "a", "/f", 0, 9), [5])

    def test_rolled_back_and_destroyed(self):
        pool = example_pool(snap=True)
        clone(pool, "a@s", "b")
        make_file(pool, "b", "/g")
        self.assertEqual((rollback(pool, "b"), destroy(pool, "b")), (6, 0))
        check_pool(self, pool)


if __name__ == "__main__":
    unittest.main()
