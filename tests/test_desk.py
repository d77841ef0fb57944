import unittest

from bornroots.commit import commit
from bornroots.deedlog import log_told
from bornroots.desk import cut_to, link, make_file, make_folder, move, unlink, write
from bornroots.drives import Drives
from bornroots.mount import made_pool, mount
from bornroots.snapshots import snapshot
from bornroots.views import names, read, told
from bornroots.volumes import make_volume, set_quota

from pools import all_seen, check_pool, filled
from records import NO_PATHS, ONE_BUCKET, files_in
from refusals import OFF, refusal

NO_NAMES = ("", "abcde", "A", "a1", "a@s", " ", "/", None, 7, ("a",))
# Each deed with arguments that a volume with the folder /d and the file /f grants.
DEEDS = ((make_folder, "/x"), (make_file, "/x"), (link, "/f", "/x"), (unlink, "/f"), (move, "/f", "/x"),
         (write, "/f", 0, [5]), (cut_to, "/f", 3))


def pool_with(*lines, many=1, room=100, quota=0):
    """A pool with the volume a, in which what each line tells was made and committed."""
    pool = made_pool(Drives(many, room), tag=7)
    make_volume(pool, "a")
    for line in lines:
        (make_folder if line.endswith("/") else make_file)(pool, "a", line.rstrip("/"))
    commit(pool)
    set_quota(pool, "a", quota)
    return pool


class GrantedTest(unittest.TestCase):
    def test_results(self):
        pool = pool_with()
        self.assertEqual(make_folder(pool, "a", "/d"), 1)
        self.assertEqual(make_file(pool, "a", "/d/f"), 2)
        for call in ((link, "/d/f", "/g"), (write, "/g", 0, (5, 6)), (cut_to, "/g", 1), (unlink, "/d/f"),
                     (move, "/g", "/d/h")):
            deed, *given = call
            self.assertIsNone(deed(pool, "a", *given))
        self.assertEqual((read(pool, "a", "/d/h", 0, 9), names(pool, "a", "/"), told(pool, "a", "/d/h")),
                         ([5], ["d"], ("file", 2, 1, 1)))
        check_pool(self, pool)

    def test_a_deed_is_open_and_nothing_else(self):
        for deed, *given in DEEDS:
            pool = pool_with("/d/", "/f", many=2)
            root, elder, begun = pool.root, pool.elder, pool.drives.begun()
            deed(pool, "a", *given)
            self.assertIs(pool.root, root)
            self.assertIs(pool.elder, elder)
            self.assertEqual((pool.last, len(pool.opened), pool.drives.begun() - begun), (root.number, 1, 2))
            self.assertEqual(pool.drives.pending(), [])
            head, records = pool.opened[0]
            old = root.trees[1].records
            changes = log_told(pool.drives.cell(0, 33))
            self.assertEqual(pool.drives.cell(0, 33), pool.drives.cell(1, 33))
            self.assertEqual((head, changes[:2], pool.drives.cell(0, 33)[2]), (1, (0, 1), root.number))
            self.assertEqual({key: record for key, record in {**old, **dict(changes[2])}.items() if record}, records)
            self.assertEqual(sorted(key for key, _ in changes[2]),
                             sorted(key for key in {**old, **records} if old.get(key) != records.get(key)))

    def test_the_example(self):
        pool = made_pool(Drives(1, 40), tag=7)
        self.assertEqual((make_volume(pool, "a"), make_file(pool, "a", "/f")), (1, 1))
        self.assertEqual(pool.drives.cell(0, 33)[:-1], (3, 33, 2, 12, 0, 1, 2, 7, 2, 6, 1, 8, 3, 1, 1, 0))
        self.assertEqual((commit(pool), snapshot(pool, "a", "s")), (3, 2))
        write(pool, "a", "/f", 0, [5])
        self.assertEqual(pool.drives.cell(0, 33)[:3], (3, 33, 4))

    def test_a_log_row_tells_what_changed_since_the_open_deed_ahead(self):
        pool = pool_with("/f")
        write(pool, "a", "/f", 0, [5])
        write(pool, "a", "/f", 1, [6])
        write(pool, "a", "/f", 1, [6])
        rows = [log_told(pool.drives.cell(0, place)) for place in (33, 34, 35)]
        self.assertEqual(rows, [(0, 1, ((8, (1, 1, 1)), (9, (5, 0, 0, 0, 0, 0, 0, 0)))),
                                (1, 1, ((8, (1, 1, 2)), (9, (5, 6, 0, 0, 0, 0, 0, 0)))), (2, 1, ())])

    def test_a_deed_that_changes_no_record_is_open_too(self):
        pool = pool_with("/f")
        cut_to(pool, "a", "/f", 0)
        self.assertEqual((len(pool.opened), log_told(pool.drives.cell(0, 33))), (1, (0, 1, ())))
        number = pool.root.number
        self.assertEqual(commit(pool), number + 1)

    def test_deeds_of_several_volumes(self):
        pool = pool_with("/f")
        make_volume(pool, "b")
        make_file(pool, "b", "/g")
        write(pool, "a", "/f", 0, [1])
        make_file(pool, "b", "/h")
        self.assertEqual([head for head, _ in pool.opened], [2, 1, 2])
        self.assertEqual((names(pool, "b", "/"), names(pool, "a", "/")), (["g", "h"], ["f"]))
        commit(pool)
        self.assertEqual((names(pool, "b", "/"), read(pool, "a", "/f", 0, 1)), (["g", "h"], [1]))
        check_pool(self, pool)

    def test_drives_that_are_off_get_no_row(self):
        pool = pool_with("/f", many=2)
        pool.drives.turn(0, False)
        write(pool, "a", "/f", 0, [1])
        self.assertEqual((pool.drives.cell(0, 33)[2], pool.drives.cell(1, 33)[2]), (2, pool.root.number))

    def test_what_is_handed_in_is_copied(self):
        pool, values = pool_with("/f"), [5]
        write(pool, "a", "/f", 0, values)
        values[0] = 6
        self.assertEqual((read(pool, "a", "/f", 0, 9), values), ([5], [6]))


class RefusedTest(unittest.TestCase):
    def check(self, pool, expected, deed, *given):
        before = all_seen(pool)
        self.assertEqual(refusal(deed, pool, *given), expected, given)
        self.assertEqual(all_seen(pool), before)

    def bad(self, pool, told):
        """Each deed is refused so, whatever its arguments are."""
        for deed, *given in DEEDS:
            self.check(pool, told, deed, "a", *given)
            self.check(pool, told, deed, "A", *given)
            self.check(pool, told, deed, "zz", *["//" if isinstance(word, str) else -1 for word in given[:-1]], "//")

    def test_off_ahead_of_all(self):
        pool = pool_with("/d/", "/f")
        pool.drives.cut()
        self.bad(pool, OFF)
        mount(pool.drives)
        self.bad(pool, OFF)
        pool = pool_with("/d/", "/f")
        made_pool(pool.drives)
        self.bad(pool, OFF)
        pool = pool_with("/d/", "/f")
        later = mount(pool.drives)
        self.bad(pool, OFF)
        self.assertEqual(make_file(later, "a", "/x"), 3)

    def test_names(self):
        pool = pool_with("/d/", "/f")
        for deed, *given in DEEDS:
            for name in NO_NAMES:
                self.check(pool, ("BadName", name), deed, name, *given)
                self.check(pool, ("BadName", name), deed, name, "//", *given[1:])

    def test_paths_and_numbers_ahead_of_no_volume(self):
        pool = pool_with("/d/", "/f")
        for vol in ("a", "zz"):
            for path in NO_PATHS:
                for deed, *given in DEEDS:
                    self.check(pool, ("BadPath", path), deed, vol, path, *given[1:])
                for deed in (link, move):
                    self.check(pool, ("BadPath", path), deed, vol, "/none", path)
                    self.check(pool, ("BadPath", "/A"), deed, vol, "/A", path)
                self.check(pool, ("BadPath", path), write, vol, path, 56, [])
                self.check(pool, ("BadPath", path), cut_to, vol, path, 57)
            for path in ("/f", "/d", "/none", "/"):
                for at in (-1, 56):
                    self.check(pool, ("BadNumber", at), write, vol, path, at, [])
                for many in (0, 17):
                    self.check(pool, ("BadNumber", many), write, vol, path, 55, [1000] * many)
                self.check(pool, ("BadNumber", 1000), write, vol, path, 55, [0, 1000, -1])
                for length in (-1, 57):
                    self.check(pool, ("BadNumber", length), cut_to, vol, path, length)

    def test_no_volume_ahead_of_what_the_records_refuse(self):
        pool = pool_with("/d/", "/f")
        for deed, *given in ((make_folder, "/"), (make_file, "/f"), (link, "/none", "/"), (unlink, "/"),
                             (move, "/", "/"), (write, "/d", 55, [1, 1]), (cut_to, "/d", 0)):
            self.check(pool, ("NoVolume", "b"), deed, "b", *given)

    def test_what_the_records_refuse(self):
        pool = pool_with("/d/", "/f", *["/d/" + name for name in ONE_BUCKET[:8]])
        for deed, given, expected in (
                (make_folder, ["/"], ("TopFolder", "/")), (make_file, ["/none/x"], ("NoName", "/none/x")),
                (make_file, ["/f/x"], ("NotFolder", "/f/x")), (make_folder, ["/f"], ("Taken", "/f")),
                (make_file, ["/d/aaab"], ("FolderFull", "/d/aaab")),
                (link, ["/none", "/"], ("TopFolder", "/")), (link, ["/none", "/f"], ("NoName", "/none")),
                (link, ["/d", "/f"], ("IsFolder", "/d")), (link, ["/f", "/none/x"], ("NoName", "/none/x")),
                (link, ["/f", "/f"], ("Taken", "/f")), (link, ["/f", "/d/aaab"], ("FolderFull", "/d/aaab")),
                (unlink, ["/"], ("TopFolder", "/")), (unlink, ["/none"], ("NoName", "/none")),
                (unlink, ["/d"], ("NotEmpty", "/d")),
                (move, ["/", "/"], ("TopFolder", "/")), (move, ["/none", "/f"], ("NoName", "/none")),
                (move, ["/f", "/none/x"], ("NoName", "/none/x")), (move, ["/f", "/f"], ("Taken", "/f")),
                (move, ["/d", "/d/aaab"], ("Within", "/d/aaab")), (move, ["/f", "/d/aaab"], ("FolderFull", "/d/aaab")),
                (write, ["/none", 55, [1, 1]], ("NoName", "/none")), (write, ["/d", 55, [1, 1]], ("IsFolder", "/d")),
                (write, ["/f", 55, [1, 1]], ("TooLong", "/f")), (cut_to, ["/d", 0], ("IsFolder", "/d")),
                (cut_to, ["/f/x", 0], ("NotFolder", "/f/x"))):
            self.check(pool, expected, deed, "a", *given)

    def test_open_deeds_are_asked(self):
        pool = pool_with("/f")
        make_folder(pool, "a", "/d")
        self.check(pool, ("Taken", "/d"), make_file, "a", "/d")
        move(pool, "a", "/f", "/d/f")
        self.check(pool, ("NoName", "/f"), write, "a", "/f", 0, [1])
        self.check(pool, ("NotEmpty", "/d"), unlink, "a", "/d")
        self.assertEqual(make_file(pool, "a", "/f"), 3)

    def test_no_node(self):
        pool = pool_with("/d/", *files_in("/d", 40), "/e/", *files_in("/e", 21), room=400)
        self.check(pool, ("NoNode", "/x"), make_file, "a", "/x")
        unlink(pool, "a", "/d/aa")
        self.assertEqual(make_folder(pool, "a", "/x"), 2)


class RoomTest(unittest.TestCase):
    """Quota, NoRoom and BookFull are judged as if the open deeds and this one were committed at once."""

    def check(self, pool, expected, deed, *given):
        before = all_seen(pool)
        self.assertEqual(refusal(deed, pool, *given), expected)
        self.assertEqual(all_seen(pool), before)

    def test_quota(self):
        # The volume has four blocks. A file makes seven of them, each file more adds a leaf and a node, and a bucket.
        for quota in (7, 10, 13):
            pool = pool_with(quota=quota)
            for at in range((quota - 4) // 3):
                make_file(pool, "a", "/" + "abcdef"[at])
            self.check(pool, ("Quota", "a"), make_file, "a", "/z")
            self.check(pool, ("Quota", "a"), make_folder, "a", "/z")
            commit(pool)
            self.assertEqual(len(pool.root.used), quota)
            check_pool(self, pool)
            self.check(pool, ("Quota", "a"), make_folder, "a", "/z")
            unlink(pool, "a", "/a")
            self.assertEqual(make_file(pool, "a", "/z"), 1)

    def test_quota_counts_the_snapshots(self):
        pool = pool_with("/f", quota=12)
        snapshot(pool, "a", "s")
        write(pool, "a", "/f", 0, [5])
        write(pool, "a", "/f", 0, [6])
        self.check(pool, ("Quota", "a"), write, "a", "/f", 8, [6])
        pool = pool_with("/f", quota=11)
        snapshot(pool, "a", "s")
        self.check(pool, ("Quota", "a"), write, "a", "/f", 0, [5])

    def test_another_volume_does_not_count(self):
        pool = pool_with(quota=4)
        make_volume(pool, "b", quota=7)
        make_file(pool, "b", "/f")
        self.check(pool, ("Quota", "b"), make_file, "b", "/g")
        self.check(pool, ("Quota", "a"), make_file, "a", "/g")

    def test_no_room(self):
        # Of 20 cells the root holds seven and the elder three others: ten are free.
        pool = made_pool(Drives(1, 20))
        make_volume(pool, "a")
        make_file(pool, "a", "/f")
        commit(pool)
        self.assertEqual((len(pool.root.used), len({**pool.root.used, **pool.elder.used})), (7, 10))
        for at in (0, 8, 16, 24, 32):
            write(pool, "a", "/f", at, [1])
        # Five leaves of values, that of the head, the node, the mid and the top: nine blocks; one more has room.
        self.check(pool, ("NoRoom", 13), make_file, "a", "/m")
        write(pool, "a", "/f", 40, [1])
        self.check(pool, ("NoRoom", 11), write, "a", "/f", 48, [1])
        self.check(pool, ("NoRoom", 14), make_file, "a", "/m")
        write(pool, "a", "/f", 0, [2])
        commit(pool)
        # The root holds thirteen cells and the elder four others.
        self.assertEqual((len(pool.root.used), len({**pool.root.used, **pool.elder.used})), (13, 17))
        self.check(pool, ("NoRoom", 4), write, "a", "/f", 0, [3])
        commit(pool, always=True)
        write(pool, "a", "/f", 0, [3])
        check_pool(self, pool)

    def test_book_full(self):
        for numbers, expected in ((592, None), (593, ("BookFull", 601)), (600, ("BookFull", 608))):
            pool = pool_with("/f")
            snapshot(pool, "a", "s")
            pool.root = filled(pool.root, numbers)
            if expected is None:
                write(pool, "a", "/f", 0, [5])
            else:
                self.check(pool, expected, write, "a", "/f", 0, [5])
        # Behind the open one another deed of the same blocks is granted, one that takes a pair more is not.
        pool = pool_with("/f")
        snapshot(pool, "a", "s")
        pool.root = filled(pool.root, 592)
        write(pool, "a", "/f", 0, [5])
        write(pool, "a", "/f", 8, [5])
        self.check(pool, ("BookFull", 602), make_file, "a", "/g")
        self.assertEqual(len(pool.opened), 2)

    def test_their_order(self):
        # Of the file behind the snapshot five blocks are new for a value, six for another file.
        for room, quota, deed, expected in (
                (15, 12, (write, "a", "/f", 0, [5]), ("BookFull", 608)),
                (15, 12, (make_file, "a", "/g"), ("Quota", "a")),
                (15, 11, (write, "a", "/f", 0, [5]), ("Quota", "a")),
                (13, 13, (make_file, "a", "/g"), ("BookFull", 606)),
                (12, 13, (make_file, "a", "/g"), ("NoRoom", 6)), (12, 12, (make_file, "a", "/g"), ("Quota", "a")),
                (12, 0, (make_file, "a", "/g"), ("NoRoom", 6)), (12, 12, (make_file, "a", "/f"), ("Taken", "/f"))):
            pool = made_pool(Drives(1, room))
            make_volume(pool, "a", quota=quota)
            make_file(pool, "a", "/f")
            snapshot(pool, "a", "s")
            commit(pool, always=True)
            pool.root = filled(pool.root, 600)
            self.check(pool, expected, *deed)


class NinthTest(unittest.TestCase):
    def eight(self, **named):
        pool = pool_with("/f", "/g", **named)
        for at in range(8):
            write(pool, "a", "/f", 0, [at + 1])
        return pool

    def test_granted(self):
        pool = self.eight()
        root = pool.root
        self.assertEqual([pool.drives.cell(0, place)[2] for place in range(33, 41)], [root.number] * 8)
        begun = pool.drives.begun()
        write(pool, "a", "/f", 0, [9])
        self.assertIs(pool.elder, root)
        self.assertEqual((pool.root.number, pool.last, len(pool.opened)), (root.number + 1, root.number + 1, 1))
        self.assertEqual(pool.root.trees[1].records[9][0], 8)
        self.assertEqual(read(pool, "a", "/f", 0, 1), [9])
        row = pool.drives.cell(0, 33)
        self.assertEqual((row[2], log_told(row)), (root.number + 1, (0, 1, ((9, (9, 0, 0, 0, 0, 0, 0, 0)),))))
        self.assertEqual(pool.drives.cell(0, 34)[2], root.number)
        # Five blocks, a page, the head, and the row.
        self.assertEqual(pool.drives.begun() - begun, 8)
        check_pool(self, pool)

    def test_a_ninth_one_of_another_volume(self):
        pool = pool_with("/f")
        make_volume(pool, "b")
        for at in range(8):
            write(pool, "a", "/f", at, [at + 1])
        make_file(pool, "b", "/x")
        self.assertEqual(([head for head, _ in pool.opened], pool.root.trees[2].records), ([2], {0: (2, 0)}))
        self.assertEqual(read(pool, "a", "/f", 0, 9), [1, 2, 3, 4, 5, 6, 7, 8])
        make_file(pool, "a", "/y")
        self.assertEqual((log_told(pool.drives.cell(0, 34))[:2], pool.drives.cell(0, 34)[2]), ((1, 1), 6))

    def test_refused_by_the_records(self):
        pool = self.eight()
        for deed, given, expected in ((make_file, ["/f"], ("Taken", "/f")), (write, ["/", 0, [1]], ("IsFolder", "/")),
                                      (make_file, ["//"], ("BadPath", "//"))):
            before = all_seen(pool)
            self.assertEqual(refusal(deed, pool, "a", *given), expected)
            self.assertEqual(all_seen(pool), before)

    def test_what_has_room_at_once_may_have_none_as_the_ninth(self):
        # The root holds ten cells. The eight take five, and what they replace waits; the ninth takes four.
        for room, expected in ((19, None), (18, ("NoRoom", 4))):
            pool = self.eight(room=room)
            self.assertEqual(refusal(write, pool, "a", "/f", 0, [9]), expected)
            self.assertEqual(len(pool.opened), 8 if expected else 1)

    def test_what_has_no_room_at_once_may_have_some_as_the_ninth(self):
        for many in (7, 8):
            pool = made_pool(Drives(1, 16))
            make_volume(pool, "a")
            make_file(pool, "a", "/f")
            write(pool, "a", "/f", 0, [100])
            commit(pool)
            write(pool, "a", "/f", 0, [200])
            commit(pool)
            # The root holds eight cells, and four others wait until the eight are committed.
            self.assertEqual((len(pool.root.used), len({**pool.root.used, **pool.elder.used})), (8, 12))
            for at in range(many):
                write(pool, "a", "/f", 0, [at])
            self.assertEqual(refusal(cut_to, pool, "a", "/f", 2), ("NoRoom", 5) if many == 7 else None)
            check_pool(self, pool)

    def test_refused_by_quota_no_room_and_book_full(self):
        for pool, expected in self.refused_pools():
            before = all_seen(pool)
            self.assertEqual(refusal(make_file, pool, "a", "/x"), expected)
            self.assertEqual(all_seen(pool), before)
            self.assertEqual(len(pool.opened), 8)
            write(pool, "a", "/f", 0, [9])
            self.assertEqual(len(pool.opened), 1)

    def refused_pools(self):
        # Ten blocks are there, and eleven behind the eight deeds; another file makes fourteen.
        yield self.eight(quota=13), ("Quota", "a")
        yield self.eight(room=20), ("NoRoom", 6)
        pool = pool_with("/f", "/g")
        snapshot(pool, "a", "s")
        pool.root = filled(pool.root, 592)
        for at in range(8):
            write(pool, "a", "/f", 0, [at + 1])
        yield pool, ("BookFull", 602)


if __name__ == "__main__":
    unittest.main()
