"""Records for tests, and a plain table of paths to compare them with."""

from bornroots.deedsdata import with_length, with_values
from bornroots.deedsmake import with_file, with_folder, with_link, without_name
from bornroots.deedsmove import with_move

TOP = {0: (2, 0)}
# Names that all belong to bucket 2 of their folder.
ONE_BUCKET = ["a", "h", "o", "v", "ab", "ai", "ap", "aw", "aaab"]
NO_PATHS = ("", "a", "/a/", "//a", "/A", "/abcde", "/a/b/c/d/e/f/g", None, 7, ["/a"])


def made(*lines):
    """Records behind making what each line tells: a path with / at its end is a folder, a=b links b to a."""
    records = dict(TOP)
    for line in lines:
        if "=" in line:
            records = with_link(records, *line.split("="))
        elif line.endswith("/"):
            records = with_folder(records, line[:-1])[0]
        else:
            records = with_file(records, line)[0]
    return records


def files_in(path, many):
    """Paths of so many files in a folder, no bucket of which gets too full."""
    letters = "abcdefghijklmnopqrstuvwxyz"
    return [f"{path}/{letters[at // 26 % 26]}{letters[at % 26]}" for at in range(many)]


DEEDS = {"file": with_file, "folder": with_folder, "link": with_link, "unlink": without_name, "move": with_move,
         "write": with_values, "cut": with_length}


def done(records, deed, *given):
    """The records behind a deed."""
    told = DEEDS[deed](records, *given)
    return told[0] if deed in ("file", "folder") else told


def upper_of(path):
    return path.rpartition("/")[0] or "/"


class Table:
    """A plain telling of points 5 and 6: paths lead to things; a thing is a list of values, or None for a folder.

    Neither the limits of buckets nor those of nodes are told here: tables stay small.
    """

    def __init__(self):
        self.things = {"/": None}
        self.mark = (0, 0)

    def twin(self):
        """Another table with the same paths, files with several names being one file there, too."""
        other = Table()
        copies = {id(thing): None if thing is None else list(thing) for thing in self.things.values()}
        other.things = {path: copies[id(thing)] for path, thing in self.things.items()}
        return other

    def walk(self, path):
        for many in range(1, path.count("/") + 1):
            part = "/".join(path.split("/")[:many]) or "/"
            if part not in self.things:
                return ("NoName", path)
            if self.things[part] is not None:
                return ("NotFolder", path)
        return None if path in self.things else ("NoName", path)

    def upper(self, path):
        told = self.walk(upper_of(path))
        if told:
            return (told[0], path)
        return ("NotFolder", path) if self.things[upper_of(path)] is not None else None

    def new(self, path):
        return self.upper(path) or (("Taken", path) if path in self.things else None)

    def at_file(self, path):
        return self.walk(path) or (("IsFolder", path) if self.things[path] is None else None)

    def refusal(self, deed, path, *given):
        """The refusal of a deed, or None."""
        if deed == "link":
            other = given[0]
            return ("TopFolder", other) if other == "/" else self.at_file(path) or self.new(other)
        if deed in ("write", "cut"):
            long = deed == "write" and given[0] + len(given[1]) > 56
            return self.at_file(path) or (("TooLong", path) if long else None)
        if path == "/":
            return ("TopFolder", path)
        if deed in ("file", "folder"):
            return self.new(path)
        if deed == "unlink":
            full = any(key.startswith(path + "/") for key in self.things)
            return self.walk(path) or (("NotEmpty", path) if full else None)
        return self.refused_move(path, given[0])

    def refused_move(self, path, other):
        if other == "/":
            return ("TopFolder", other)
        told = self.walk(path) or self.new(other)
        if told is None and self.things[path] is None and other.startswith(path + "/"):
            return ("Within", other)
        return told

    def do(self, deed, path, *given):
        """Do a deed that is not refused."""
        if deed in ("file", "folder"):
            self.things[path] = [] if deed == "file" else None
        elif deed == "link":
            self.things[given[0]] = self.things[path]
        elif deed == "unlink":
            del self.things[path]
        elif deed == "write":
            values = self.things[path]
            at, more = given
            values += [0] * (at - len(values))
            values[at:at + len(more)] = more
        elif deed == "cut":
            values = self.things[path]
            values[:] = (values + [0] * given[0])[:given[0]]
        else:
            moved = {key: thing for key, thing in self.things.items() if key == path or key.startswith(path + "/")}
            self.things = {key: thing for key, thing in self.things.items() if key not in moved}
            self.things.update({given[0] + key[len(path):]: thing for key, thing in moved.items()})

    def names(self, path):
        start = path if path != "/" else ""
        return sorted(key[len(start) + 1:] for key in self.things
                      if key != "/" and upper_of(key) == path)

    def links(self, path):
        return sum(thing is self.things[path] for thing in self.things.values())

    def look(self, path):
        """What a path leads to, in a form to compare: the names of a folder; links and values of a file."""
        if self.things[path] is None:
            return self.names(path)
        return (self.links(path), list(self.things[path]))

    def all(self):
        """The paths of at most six names, and what they lead to."""
        return {path: self.look(path) for path in self.things if path.count("/") <= 6}


def some_deed(chance, table):
    """A deed by chance, more often than not one that is granted."""
    deed = chance.choice(["file", "file", "folder", "link", "unlink", "move", "move", "write", "write", "cut"])
    if deed in ("file", "folder"):
        return (deed, _some_new(chance, table))
    path = _some_path(chance, table, deed in ("link", "write", "cut"))
    if deed in ("link", "move"):
        return (deed, path, _some_new(chance, table))
    if deed == "write":
        values = [chance.choice([0, 0, 1, 999]) for _ in range(chance.randint(1, 16))]
        return (deed, path, chance.choice([0, 1, 7, 8, 20, 39, 40, 41, 55]), values)
    if deed == "cut":
        return (deed, path, chance.choice([0, 1, 7, 8, 9, 30, 56]))
    return (deed, path)


def _some_path(chance, table, is_file):
    paths = sorted(table.things)
    files = [path for path in paths if table.things[path] is not None]
    if chance.random() < 0.1:
        return _some_new(chance, table)
    path = chance.choice(files if is_file and files and chance.random() < 0.9 else paths)
    return path if path.count("/") <= 6 else "/a"


def _some_new(chance, table):
    paths = sorted(table.things)
    folders = [path for path in paths if table.things[path] is None]
    path = chance.choice(folders if chance.random() < 0.95 else paths)
    if chance.random() < 0.97:
        path = (path if path != "/" else "") + "/" + chance.choice("abcdhko")
    return path if path.count("/") <= 6 else "/a"
