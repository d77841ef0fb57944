"""Names, arguments and defaults of the interface, and that each stands in its own file and class."""

import importlib
import inspect
import unittest

LISTED = {
    "errors": ["Refused(what)"],
    "rows": ["check_of(numbers)", "made_row(kind, place, number, payload)", "is_good(row)",
             "fits(row, kind, place, number=None)", "half_of(row)", "payload_of(row)"],
    "namecodes": ["is_name(text)", "need_name(text)", "name_number(name)", "name_of(number)", "root_words(text)",
                  "root_text(vol, snap)"],
    "power": ["digit_of(mask, j)", "left_by(row, before, digit)"],
    "drives": ["Drives(many, room)", "Drives.cell(drive, place)", "Drives.put(place, row, *, only=None)",
               "Drives.flush()", "Drives.arm(count, mask)", "Drives.cut()", "Drives.has_power()", "Drives.owner()",
               "Drives.start()", "Drives.is_on(drive)", "Drives.drives_on()", "Drives.turn(drive, on)",
               "Drives.fitting(kind, place, number, *, only=None)", "Drives.pending()", "Drives.begun()",
               "Drives.await_fault(drive, place, other)", "Drives.lay(drive, place, row)", "Drives.blank(drive)"],
    "faults": ["rot(drives, drive, place, at, by)", "lose(drives, drive, place)", "stray(drives, drive, place, other)",
               "wipe(drives, drive)"],
    "layout": ["head_place(area)", "page_place(area, i)", "log_place(i)", "next_area(area)", "tree_places(room)",
               "is_tree_place(place, room)"],
    "roots": ["Root(ident, volume, snap, prev, time, mark, top, dead)", "Volume(name, quota, head)", "Book()",
              "Book.twin()", "volume_named(book, name)", "root_named(book, text)", "snap_named(book, text)",
              "text_of(book, root)", "chain_of(book, volume)", "origin_of(book, volume)", "children_of(book, root)",
              "edge_of(book, root)"],
    "bookrows": ["book_numbers(book)", "book_of(numbers)", "pages_of(numbers)", "need_fitting(book)"],
    "headrows": ["page_rows(area, number, numbers)", "head_row(area, number, tag, many, room, ahead, pages)",
                 "head_told(row)", "book_found(drives, area, number, pages)"],
    "keys": ["block_of(level, key)", "stretch_of(level, number)", "node_of(key)", "key_of(node, place)"],
    "treeplan": ["Tree(places, records)", "Tree.top()", "Tree.pairs()", "unlike_keys(old, new)",
                 "changed(tree, records)", "grown(tree, records, cells, number)", "size_of(records)"],
    "treewalk": ["walked(drives, top, *, only=None)"],
    "paths": ["names_of(path)"],
    "nodes": ["head_of(records, node)", "keys_of_node(records, node)", "free_node(records)", "empty_volume()"],
    "folders": ["bucket_of(name)", "entry_of(records, node, name)", "names_in(records, node)",
                "is_full(records, node, name)", "with_entry(records, node, name, target)",
                "without_entry(records, node, name)"],
    "walkpath": ["walk(records, path)", "upper(records, path)"],
    "deedsmake": ["with_folder(records, path)", "with_file(records, path)", "with_link(records, path, other)",
                  "without_name(records, path)"],
    "deedsmove": ["with_move(records, path, other)"],
    "deedsdata": ["with_values(records, path, at, values)", "with_length(records, path, length)",
                  "need_span(at, values)", "need_length(length)"],
    "looks": ["values_at(records, path, at, many)", "names_at(records, path)", "told_at(records, path)",
              "need_window(at, many)"],
    "sound": ["is_sound(records)"],
    "space": ["Standing(number, area, ahead, book, trees, used)", "reached(standing)",
              "free_places(room, standing, elder)", "written_pairs(standing, root)", "used_by(standing, volume)",
              "parted(pairs, edge)"],
    "state": ["Pool(drives, tag, root, elder, last)", "Pool.need_running()", "Pool.records_of(root)"],
    "plan": ["Step(standing, rows)", "content_step(standing, elder, last, room, drafts, *, finish=None)",
             "book_step(standing, last, book, trees, gone)", "behind_open(pool)"],
    "commit": ["carry(pool, step)", "commit(pool, *, always=False)", "do_roots(pool, make)"],
    "deedlog": ["log_row(number, i, head, old, new)", "log_told(row)", "put_log(pool, head, old, new)",
                "log_found(drives, number)", "has_log(drives, number)"],
    "desk": ["make_folder(pool, vol, path)", "make_file(pool, vol, path)", "link(pool, vol, path, other)",
             "unlink(pool, vol, path)", "move(pool, vol, path, other)", "write(pool, vol, path, at, values)",
             "cut_to(pool, vol, path, length)"],
    "views": ["read(pool, root, path, at, many)", "names(pool, root, path)", "told(pool, root, path)"],
    "promised": ["promised_rows(pool)"],
    "mends": ["mend(drives, rows, goals, sources)"],
    "heads": ["heads_found(drives)", "last_number(drives)", "standing_at(drives, number, area)"],
    "mount": ["made_pool(drives, *, tag=0)", "mount(drives, *, elder=False)"],
    "salvage": ["salvage(drives)"],
    "volumes": ["make_volume(pool, name, *, quota=0)", "set_quota(pool, vol, quota)", "destroy(pool, vol)"],
    "snapshots": ["snapshot(pool, vol, snap)", "clone(pool, root, name, *, quota=0)", "rollback(pool, vol)"],
    "drops": ["drop(pool, root)", "handed_on(book, root)"],
    "promotes": ["promote(pool, vol)"],
    "rewinds": ["rewind(pool)"],
    "roomtold": ["room(pool)", "free_cells(pool)", "referred(pool, root)", "written(pool, root)",
                 "unique(pool, root)", "freed_by(pool, roots)", "used(pool, vol)", "freed_pairs(standing, idents)"],
    "intervals": ["least_drops(pool, vol, wanted)"],
    "touched": ["touched(pool, one, other)", "differ(pool, one, other)", "is_above(book, high, low)",
                "touched_keys(standing, high, low)"],
    "parcels": ["sent(pool, root, *, base=None)", "checked(stream)", "made_stream(base, mark, rows)"],
    "receiving": ["receive(pool, stream, vol, snap)"],
    "joins": ["joined(one, two)"],
    "scrub": ["scrub(pool)"],
    "onoff": ["off(pool, drive)", "on(pool, drive)"],
    "hits": ["hits(pool, place)"],
    "papers": ["letgo_paper(pool, root)", "letgo_right(pool, paper)", "untouched_right(pool, paper)"],
    "holders": ["holders(pool, address)", "holders_right(pool, paper)"],
    "sayswords": ["words_of(line)", "number_told(word, line)"],
    "saysfiles": ["says_files(pool, line)"],
    "saysroots": ["says_roots(pool, line)"],
    "saysrooms": ["says_rooms(pool, line)"],
    "sayscare": ["says_care(pool, line)"],
}


def signature_of(thing, is_method):
    told = inspect.signature(thing)
    if is_method:
        told = told.replace(parameters=list(told.parameters.values())[1:])
    return str(told)


class InterfaceTest(unittest.TestCase):
    def test_all_that_is_listed(self):
        for name, listed in LISTED.items():
            module = importlib.import_module(f"bornroots.{name}")
            for line in listed:
                with self.subTest(module=name, line=line):
                    self.check(module, line)

    def check(self, module, line):
        head, _, told = line.partition("(")
        words = head.split(".")
        thing = vars(module)[words[0]]
        self.assertEqual(thing.__module__, module.__name__)
        if len(words) == 2:
            thing = vars(thing)[words[1]]
        self.assertEqual(signature_of(thing, len(words) == 2), "(" + told)


if __name__ == "__main__":
    unittest.main()
