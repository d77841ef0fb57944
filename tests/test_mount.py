import unittest

from bornroots.bookrows import book_numbers
from bornroots.commit import commit
from bornroots.desk import cut_to, make_file, make_folder, unlink, write
from bornroots.drives import Drives
from bornroots.faults import lose, rot, stray, wipe
from bornroots.headrows import head_row, page_rows
from bornroots.layout import log_place
from bornroots.mount import made_pool, mount
from bornroots.promised import promised_rows
from bornroots.rows import fits, made_row
from bornroots.snapshots import snapshot
from bornroots.space import Standing
from bornroots.state import Pool
from bornroots.views import names, read
from bornroots.volumes import destroy, make_volume

from pools import Told, all_seen, cells, check_pool, contents, example_pool, pool_seen, standing_seen
from refusals import OFF, refusal


def drives_seen(drives):
    return (cells(drives), drives.begun(), drives.pending(), drives.has_power(), drives.owner(), drives.drives_on())


def tagged_pool(many=1, room=40):
    """The pool of the example of 8.5 behind snapshot a s, made by the deeds themselves."""
    pool = made_pool(Drives(many, room), tag=7)
    make_volume(pool, "a")
    make_file(pool, "a", "/f")
    commit(pool)
    snapshot(pool, "a", "s")
    return pool


class MadeTest(unittest.TestCase):
    def test_a_new_pool(self):
        for many in (1, 2, 3):
            drives = Drives(many, 8)
            pool = made_pool(drives, tag=999)
            self.assertIsInstance(pool, Pool)
            page, head = (2, 1, 1, 3, 1, 0, 0), (1, 0, 1, 5, 999, many, 8, 0, 1)
            for drive in range(many):
                rows = {0: made_row(*head[:3], head[4:]), 1: made_row(*page[:3], page[4:])}
                self.assertEqual(cells(drives)[drive], [rows.get(place, ()) for place in range(49)])
            self.assertEqual((drives.begun(), drives.pending(), drives.owner()), (2 * many, [], 1))
            self.assertEqual((pool.tag, pool.owner, pool.elder, pool.last, pool.opened), (999, 1, None, 1, []))
            self.assertIsInstance(pool.root, Standing)
            root = pool.root
            self.assertEqual((root.number, root.area, root.ahead, book_numbers(root.book), root.trees, root.used),
                             (1, 0, 0, (1, 0, 0), {}, {}))
            self.assertIs(pool.drives, drives)
            self.assertIsNone(pool.need_running())

    def test_the_order_of_writes(self):
        drives = Drives(1, 8)
        told = Told(drives)
        made_pool(drives, tag=7)
        self.assertEqual(told.lines, [page_rows(0, 1, (1, 0, 0))[0], "flush", head_row(0, 1, 7, 1, 8, 0, 1), "flush"])

    def test_tags(self):
        self.assertEqual(made_pool(Drives(1, 8)).tag, 0)
        self.assertEqual(made_pool(Drives(1, 8), tag=0).tag, 0)
        for tag in (-1, 1000, 1000002):
            pool = tagged_pool()
            before = all_seen(pool)
            self.assertEqual(refusal(made_pool, pool.drives, tag=tag), ("BadNumber", tag))
            self.assertEqual(all_seen(pool), before)
            pool.need_running()

    def test_the_tag_stands_in_each_head(self):
        pool = made_pool(Drives(1, 60), tag=123)
        for at in range(4):
            make_volume(pool, "abcd"[at])
            self.assertEqual(pool.drives.cell(0, 11 * pool.root.area)[4], 123)
        pool = mount(pool.drives)
        snapshot(pool, "a", "s")
        self.assertEqual((pool.tag, pool.root.book.roots[5].mark), (123, (123, 6)))

    def test_used_drives_with_each_fault(self):
        pool = tagged_pool(2)
        drives = pool.drives
        write(pool, "a", "/f", 0, [1])
        rot(drives, 0, 22, 0, 1)
        lose(drives, 0, 1)
        lose(drives, 1, 0)
        stray(drives, 1, 1, 0)
        stray(drives, 0, 0, 0)
        drives.turn(1, False)
        drives.put(44, (5,))
        again = made_pool(drives, tag=8)
        self.assertEqual(drives.drives_on(), (0, 1))
        for drive in (0, 1):
            self.assertEqual([place for place in range(81) if drives.cell(drive, place)], [0, 1])
        self.assertEqual(drives.cell(0, 0), head_row(0, 1, 8, 2, 40, 0, 1)[1])
        self.assertEqual(refusal(pool.need_running), OFF)
        check_pool(self, again)
        self.assertEqual(contents(mount(drives)), {})

    def test_an_arm_takes_the_power_at_each_write(self):
        for many in (1, 2):
            for count in range(1, 2 * many + 1):
                for mask in (0, 1, 2, 3 ** 9 // 2, 3 ** 9 - 1):
                    pool = tagged_pool(many)
                    pool.drives.arm(count, mask)
                    self.assertEqual(refusal(made_pool, pool.drives), OFF)
                    self.assertEqual((refusal(pool.need_running), pool.drives.has_power()), (OFF, False))
                    self.assertTrue(all(cells(pool.drives)[drive][place] == () for drive in range(many)
                                        for place in range(2, 81)))
                    told = refusal(mount, pool.drives)
                    self.assertIn(told, (None, ("NoPool", 0)))
                    if count <= many:
                        self.assertEqual(told, ("NoPool", 0))
                    if count == 2 * many and mask == 0:
                        self.assertIsNone(told)
            pool = tagged_pool(many)
            pool.drives.arm(2 * many + 1, 0)
            self.assertEqual(refusal(make_volume, made_pool(pool.drives), "a"), OFF)

    def test_former_pools_are_off_ahead_of_its_first_write(self):
        pool = tagged_pool()
        pool.drives.arm(1, 0)
        self.assertEqual(refusal(made_pool, pool.drives), OFF)
        pool.drives.start()
        self.assertEqual(refusal(commit, pool), OFF)


class ExampleTest(unittest.TestCase):
    def cut_pool(self, mask):
        pool = tagged_pool()
        write(pool, "a", "/f", 0, [5])
        pool.drives.arm(7, mask)
        self.assertEqual(refusal(commit, pool), OFF)
        return pool.drives

    def test_the_halved_head(self):
        drives = self.cut_pool(2)
        self.assertEqual(drives.cell(0, 11), (1, 11, 5, 5, 7))
        begun = drives.begun()
        pool = mount(drives)
        root = pool.root
        self.assertEqual((root.number, root.area, root.ahead, pool.elder.number, pool.last), (6, 1, 4, 4, 6))
        self.assertEqual((read(pool, "a", "/f", 0, 9), pool.opened, drives.begun() - begun), ([5], [], 7))
        self.assertEqual(sorted(pool.root.used), list(range(41, 53)))
        check_pool(self, pool)

    def test_the_whole_head(self):
        drives = self.cut_pool(0)
        begun = drives.begun()
        pool = mount(drives)
        self.assertEqual((pool.root.number, pool.elder.number, pool.last, drives.begun() - begun), (5, 4, 5, 0))
        self.assertEqual(read(pool, "a", "/f", 0, 9), [5])
        check_pool(self, pool)


class MountTest(unittest.TestCase):
    def test_the_same_pool_again(self):
        pool = example_pool(many=2, written=True)
        known, before = pool_seen(pool), drives_seen(pool.drives)
        again = mount(pool.drives)
        self.assertIsInstance(again, Pool)
        told = pool_seen(again)
        self.assertEqual((told[0], told[1], told[2:]), (7, known[1] + 1, known[2:]))
        self.assertEqual(cells(pool.drives), before[0])
        self.assertEqual(pool.drives.begun(), before[1])
        self.assertEqual((refusal(pool.need_running), again.need_running()), (OFF, None))

    def test_without_power(self):
        pool = tagged_pool()
        pool.drives.cut()
        begun = pool.drives.begun()
        again = mount(pool.drives)
        self.assertEqual((names(again, "a", "/"), pool.drives.begun()), (["f"], begun))

    def test_no_pool(self):
        for elder in (False, True):
            drives = Drives(2, 8)
            before = drives_seen(drives)
            self.assertEqual(refusal(mount, drives, elder=elder), ("NoPool", 0))
            self.assertEqual(drives_seen(drives), before)

    def test_a_refused_mount_leaves_the_pool_as_it_is(self):
        pool = tagged_pool()
        write(pool, "a", "/f", 0, [1])
        for place in (0, 12, 22):
            rot(pool.drives, 0, place, 0, 1)
        lose(pool.drives, 0, 34)
        before = all_seen(pool)
        for elder in (False, True):
            self.assertEqual(refusal(mount, pool.drives, elder=elder), ("NoPool", 0))
        self.assertEqual(all_seen(pool), before)
        write(pool, "a", "/f", 0, [2])
        self.assertEqual(pool.drives.cell(0, 34), ())

    def test_broken(self):
        for elder in (False, True):
            pool = tagged_pool(2)
            write(pool, "a", "/f", 0, [1])
            pool.drives.turn(1, False)
            for place in (47, 45):
                for drive in (0, 1):
                    pool.drives.lay(drive, place, ())
            before = all_seen(pool)
            self.assertEqual(refusal(mount, pool.drives), ("Broken", 45))
            self.assertEqual(all_seen(pool), before)
            pool.drives.lay(0, 49, ())
            pool.drives.lay(1, 49, ())
            self.assertEqual(refusal(mount, pool.drives), ("Broken", 49))
            pool.need_running()
            self.assertEqual(pool.drives.drives_on(), (0,))

    def test_broken_needs_each_drive_to_lack_it(self):
        pool = tagged_pool(3)
        for drive in (0, 2):
            wipe(pool.drives, drive)
        again = mount(pool.drives)
        self.assertEqual(standing_seen(again.root), standing_seen(pool.root))
        self.assertEqual(cells(pool.drives)[0], cells(pool.drives)[2])
        self.assertEqual(cells(pool.drives)[0][45:51], cells(pool.drives)[1][45:51])

    def test_the_last_given_number(self):
        pool = tagged_pool()
        pool.drives.lay(0, 80, made_row(5, 80, 77, (1,)))
        pool.drives.lay(0, 79, made_row(9, 1, 76, ()))
        again = mount(pool.drives)
        self.assertEqual((again.root.number, again.last), (4, 77))
        self.assertEqual(commit(again, always=True), 78)
        self.assertEqual((again.root.ahead, mount(pool.drives).root.number), (4, 78))

    def test_all_drives_are_looked_at_and_on(self):
        pool = tagged_pool(2)
        pool.drives.turn(0, False)
        write(pool, "a", "/f", 0, [1])
        commit(pool)
        pool.drives.turn(0, True)
        pool.drives.turn(1, False)
        again = mount(pool.drives)
        self.assertEqual((again.root.number, read(again, "a", "/f", 0, 9), pool.drives.drives_on()), (5, [1], (0, 1)))
        for place, kind, number in promised_rows(again):
            self.assertTrue(fits(pool.drives.cell(0, place), kind, place, number))

    def test_a_stale_a_lost_and_a_wiped_drive(self):
        for spoil in ("stale", "wiped", "rotted"):
            for drive in (0, 1):
                pool = tagged_pool(2)
                if spoil == "stale":
                    pool.drives.turn(drive, False)
                write(pool, "a", "/f", 0, [1])
                commit(pool)
                make_folder(pool, "a", "/d")
                if spoil == "wiped":
                    wipe(pool.drives, drive)
                if spoil == "rotted":
                    for place, _, _ in promised_rows(pool):
                        rot(pool.drives, drive, place, 1, 9)
                told = contents(pool)
                again = mount(pool.drives)
                self.assertEqual(contents(again), told)
                check_pool(self, again)
                for place, kind, number in promised_rows(again):
                    for each in (0, 1):
                        self.assertTrue(fits(pool.drives.cell(each, place), kind, place, number))

    def test_mounted_twice_the_second_one_puts_nothing(self):
        pool = tagged_pool(2)
        write(pool, "a", "/f", 0, [1])
        wipe(pool.drives, 1)
        first = mount(pool.drives)
        before = (cells(pool.drives), pool.drives.begun())
        second = mount(pool.drives)
        self.assertEqual((cells(pool.drives), pool.drives.begun()), before)
        self.assertEqual(pool_seen(second)[2:], pool_seen(first)[2:])

    def test_a_lose_that_waits_in_the_mending(self):
        pool = tagged_pool(2)
        wipe(pool.drives, 1)
        lose(pool.drives, 1, 45)
        again = mount(pool.drives)
        self.assertEqual(pool.drives.cell(1, 45), ())
        begun = pool.drives.begun()
        again = mount(pool.drives)
        self.assertEqual((pool.drives.begun() - begun, pool.drives.cell(1, 45)), (1, pool.drives.cell(0, 45)))
        check_pool(self, again)

    def test_the_order_of_mending(self):
        pool = tagged_pool(2)
        for drive, place in ((1, 41), (0, 45), (1, 22), (0, 23), (1, 0)):
            pool.drives.lay(drive, place, ())
        told = Told(pool.drives)
        mount(pool.drives)
        self.assertEqual([line if line == "flush" else (line[0], line[2]) for line in told.lines],
                         [(0, (1,)), (22, (1,)), (23, (0,)), (41, (1,)), (45, (0,)), "flush"])

    def test_old_rows_that_nothing_promises_are_not_mended(self):
        pool = tagged_pool(2)
        for place in (11, 12, 33, 42, 60):
            pool.drives.lay(1, place, ())
        begun = pool.drives.begun()
        again = mount(pool.drives)
        self.assertEqual((again.elder.number, pool.drives.begun()), (3, begun))


class SettlingTest(unittest.TestCase):
    def test_open_deeds_are_put_in(self):
        pool = tagged_pool()
        make_volume(pool, "b")
        write(pool, "a", "/f", 0, [1])
        make_file(pool, "b", "/x")
        write(pool, "a", "/f", 0, [2])
        told, begun, root = contents(pool), pool.drives.begun(), pool.root
        again = mount(pool.drives)
        self.assertEqual((contents(again), again.opened), (told, []))
        self.assertEqual((again.root.number, again.root.ahead, again.last), (6, 5, 6))
        self.assertEqual(standing_seen(again.elder), standing_seen(root))
        # Eleven blocks, a page, the head.
        self.assertEqual(pool.drives.begun() - begun, 13)
        check_pool(self, again)

    def test_it_is_what_a_commit_would_have_put(self):
        pool, other = tagged_pool(), tagged_pool()
        for each in (pool, other):
            write(each, "a", "/f", 0, [1])
            make_folder(each, "a", "/d")
        commit(other)
        again = mount(pool.drives)
        self.assertEqual(cells(pool.drives), cells(other.drives))
        self.assertEqual(standing_seen(again.root), standing_seen(other.root))

    def test_deeds_that_change_no_record(self):
        pool = tagged_pool()
        write(pool, "a", "/f", 0, [1])
        commit(pool)
        write(pool, "a", "/f", 0, [1])
        begun = pool.drives.begun()
        again = mount(pool.drives)
        self.assertEqual((again.root.number, again.elder.number, pool.drives.begun() - begun), (6, 5, 2))
        check_pool(self, again)

    def test_nothing_is_put_where_no_log_row_is(self):
        pool = tagged_pool()
        write(pool, "a", "/f", 0, [1])
        commit(pool)
        begun = pool.drives.begun()
        self.assertEqual((mount(pool.drives).root.number, pool.drives.begun()), (5, begun))

    def test_a_row_ahead_of_which_one_is_lost(self):
        for lost, values in ((0, []), (1, [1]), (2, [1, 1]), (3, [1, 1, 1])):
            pool = tagged_pool(2)
            for at in range(4):
                write(pool, "a", "/f", at, [1])
            for drive in (0, 1):
                rot(pool.drives, drive, log_place(lost), 5, 3)
            again = mount(pool.drives)
            self.assertEqual((read(again, "a", "/f", 0, 9), again.root.number, again.elder.number), (values, 5, 4))
            check_pool(self, again)

    def test_a_log_row_on_one_drive_alone(self):
        for drive in (0, 1):
            pool = tagged_pool(2)
            lose(pool.drives, drive, 33)
            write(pool, "a", "/f", 0, [1])
            again = mount(pool.drives)
            self.assertEqual((read(again, "a", "/f", 0, 9), again.root.number), ([1], 5))

    def test_only_the_first_row_is_lost(self):
        pool = tagged_pool()
        lose(pool.drives, 0, 33)
        write(pool, "a", "/f", 0, [1])
        write(pool, "a", "/f", 0, [2])
        again = mount(pool.drives)
        self.assertEqual((read(again, "a", "/f", 0, 9), again.root.number, again.elder.number), ([], 5, 4))
        write(again, "a", "/f", 0, [3])
        self.assertEqual(read(mount(pool.drives), "a", "/f", 0, 9), [3])

    def test_keys_that_are_gone(self):
        pool = tagged_pool()
        write(pool, "a", "/f", 0, [1])
        commit(pool)
        cut_to(pool, "a", "/f", 0)
        make_file(pool, "a", "/g")
        unlink(pool, "a", "/f")
        told = contents(pool)
        self.assertEqual(contents(mount(pool.drives)), told)

    def test_with_the_last_cells(self):
        # Of 17 cells the root holds seven, the elder none more; six deeds take the ten that are left.
        pool = tagged_pool(1, 17)
        commit(pool, always=True)
        for at in range(6):
            write(pool, "a", "/f", 8 * at, [1])
        self.assertEqual(refusal(write, pool, "a", "/f", 48, [1]), ("NoRoom", 11))
        again = mount(pool.drives)
        self.assertEqual((sorted(again.root.used), again.root.number), (list(range(41, 58)), 6))
        check_pool(self, again)

    def test_the_power_goes_in_settling_and_mending(self):
        pool = tagged_pool(2)
        write(pool, "a", "/f", 0, [1])
        wipe(pool.drives, 0)
        pool.drives.arm(3, 0)
        self.assertEqual(refusal(mount, pool.drives), OFF)
        self.assertEqual((refusal(pool.need_running), pool.drives.has_power()), (OFF, False))
        # Now the settling takes fourteen writes, and the sixteenth one is in the mending.
        pool.drives.arm(16, 0)
        self.assertEqual(refusal(mount, pool.drives), OFF)
        again = mount(pool.drives)
        self.assertEqual((read(again, "a", "/f", 0, 9), again.elder.number), ([1], 4))
        check_pool(self, again)

    def test_an_arm_waits_through_a_mount_that_puts_nothing(self):
        pool = tagged_pool()
        pool.drives.arm(1, 0)
        again = mount(pool.drives)
        self.assertEqual(refusal(write, again, "a", "/f", 0, [1]), OFF)
        self.assertEqual(read(mount(pool.drives), "a", "/f", 0, 9), [1])

    def test_the_number_of_a_torn_transaction_is_not_given_again(self):
        pool = tagged_pool()
        pool.drives.arm(1, 0)
        self.assertEqual(refusal(commit, pool, always=True), OFF)
        again = mount(pool.drives)
        self.assertEqual((again.root.number, again.last, commit(again, always=True)), (4, 5, 6))
        self.assertEqual((again.root.area, again.root.ahead), (1, 4))


class ElderTest(unittest.TestCase):
    def test_never_there(self):
        pool = made_pool(Drives(1, 8))
        self.assertIsNone(mount(pool.drives).elder)
        before = drives_seen(pool.drives)
        self.assertEqual(refusal(mount, pool.drives, elder=True), ("NoElder", 1))
        self.assertEqual(drives_seen(pool.drives), before)

    def test_lost_ones(self):
        # The elder is transaction 2: its head in cell 11, its page in 12, and the cells 42 to 44 are its own.
        for many in (1, 2):
            for place in (11, 12, 42, 44):
                pool = example_pool(many)
                pool.drives.lay(many - 1, place, pool.drives.cell(0, place) if many == 1 else ())
                self.assertEqual(mount(pool.drives).elder.number, 2)
                for drive in range(many):
                    pool.drives.lay(drive, place, ())
                again = mount(pool.drives)
                self.assertEqual((again.root.number, again.elder), (3, None))
                self.assertEqual(refusal(mount, pool.drives, elder=True), ("NoElder", 3))
                again.need_running()
                check_pool(self, again)
                # Its cells are free now.
                write(again, "a", "/f", 0, [4])
                commit(again)
                self.assertEqual(sorted(set(again.root.used) - set(pool.root.used)), [42, 43, 44, 51, 52])
                check_pool(self, again)

    def test_taken_up(self):
        pool = example_pool(many=2, written=True)
        known = pool_seen(pool)
        begun = pool.drives.begun()
        again = mount(pool.drives, elder=True)
        root = again.root
        self.assertEqual((root.number, root.area, root.ahead, again.last, again.tag, again.opened), (6, 2, 5, 6, 7, []))
        self.assertEqual(standing_seen(again.elder), known[2])
        self.assertEqual((standing_seen(root)[3:], pool.drives.begun() - begun), (known[3][3:], 4))
        self.assertEqual(read(again, "a", "/f", 0, 9), [])
        check_pool(self, again)
        self.assertEqual(refusal(pool.need_running), OFF)
        third = mount(pool.drives, elder=True)
        self.assertEqual((third.root.number, third.root.ahead, read(third, "a", "/f", 0, 9)), (7, 6, [5]))
        check_pool(self, third)

    def test_the_order_of_writes(self):
        pool = example_pool(written=True)
        told = Told(pool.drives)
        again = mount(pool.drives, elder=True)
        page = page_rows(2, 6, book_numbers(again.root.book))
        self.assertEqual(told.lines, [page[0], "flush", head_row(2, 6, 7, 1, 40, 5, 1), "flush"])

    def test_the_log_is_not_read(self):
        pool = tagged_pool()
        write(pool, "a", "/f", 0, [5])
        again = mount(pool.drives, elder=True)
        self.assertEqual((again.root.number, again.root.ahead, read(again, "a", "/f", 0, 9)), (5, 4, []))
        self.assertEqual(sorted(contents(again)), ["a"])
        begun = pool.drives.begun()
        self.assertEqual((mount(pool.drives).root.number, pool.drives.begun()), (5, begun))

    def test_the_root_may_be_broken(self):
        for place in (51, 43):
            pool = example_pool(written=True)
            pool.drives.lay(0, place, ())
            self.assertEqual(refusal(mount, pool.drives), ("Broken", place))
            again = mount(pool.drives, elder=True)
            self.assertEqual((again.root.number, again.root.ahead, again.elder), (6, 5, None))
            check_pool(self, again)
            # No block of 5 is kept: its cells are taken by the next transaction.
            write(again, "a", "/f", 0, [6])
            commit(again)
            self.assertEqual(sorted(set(again.root.used) - set(pool.elder.used)), [42, 43, 44, 51, 52])
            check_pool(self, again)
            self.assertEqual(mount(pool.drives).root.number, 7)

    def test_the_elder_of_a_broken_root_stays_lost(self):
        pool = example_pool(written=True)
        pool.drives.lay(0, 51, ())
        mount(pool.drives, elder=True)
        again = mount(pool.drives)
        self.assertEqual((again.root.number, again.elder), (6, None))
        self.assertEqual(refusal(mount, pool.drives, elder=True), ("NoElder", 6))

    def test_a_broken_elder(self):
        pool = example_pool(written=True)
        # The snapshot's top: both transactions reach it.
        pool.drives.lay(0, 50, ())
        self.assertEqual(refusal(mount, pool.drives), ("Broken", 50))
        self.assertEqual(refusal(mount, pool.drives, elder=True), ("NoElder", 5))

    def test_mending_comes_behind(self):
        pool = example_pool(many=2, written=True)
        wipe(pool.drives, 1)
        again = mount(pool.drives, elder=True)
        for place, kind, number in promised_rows(again):
            self.assertTrue(fits(pool.drives.cell(1, place), kind, place, number))

    def test_the_last_given_number_counts(self):
        pool = example_pool(written=True)
        pool.drives.lay(0, 80, made_row(5, 80, 20, ()))
        again = mount(pool.drives, elder=True)
        self.assertEqual((again.root.number, again.last), (21, 21))

    def test_an_arm_takes_the_power(self):
        for count, whole in ((1, False), (2, True)):
            pool = example_pool(written=True)
            pool.drives.arm(count, 0)
            self.assertEqual(refusal(mount, pool.drives, elder=True), OFF)
            self.assertEqual(refusal(pool.need_running), OFF)
            self.assertEqual(read(mount(pool.drives), "a", "/f", 0, 9), [] if whole else [5])

    def test_by_name_alone(self):
        pool = example_pool()
        self.assertRaises(TypeError, mount, pool.drives, True)
        self.assertRaises(TypeError, made_pool, pool.drives, 7)


class BehindTest(unittest.TestCase):
    def test_deeds_go_on_behind_a_mount(self):
        pool = tagged_pool(2)
        make_volume(pool, "b")
        make_folder(pool, "b", "/d")
        again = mount(pool.drives)
        make_file(again, "b", "/d/x")
        self.assertEqual((names(again, "b", "/d"), destroy(again, "b")), (["x"], 10))
        check_pool(self, again)
        self.assertEqual(sorted(contents(mount(pool.drives))), ["a", "a@s"])


if __name__ == "__main__":
    unittest.main()
