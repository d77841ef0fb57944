"""Lines of words, and the calls for which they stand (point 14 of the document)."""

from bornroots.errors import BadLine

MOST_FIGURES = 6
# The arguments that are numbers, by the words that stand for them in the forms of calls.
NUMBERS = ("AT", "MANY", "VALUES", "LENGTH", "QUOTA", "WANTED", "DRIVE", "PLACE", "ADDRESS")


def words_of(line):
    """The list of the words of a line."""
    words = line.split(" ")
    if "" in words:
        raise BadLine(line)
    return words


def number_told(word, line):
    """The number for which a word of the line stands."""
    if not 1 <= len(word) <= MOST_FIGURES or not all(sign in "0123456789" for sign in word):
        raise BadLine(line)
    if word[0] == "0" and word != "0":
        raise BadLine(line)
    return int(word)


def said(pool, line, calls):
    """Make the call for which a line stands, and tell repr of its result.

    calls has a pair (call, form) for each first word. A form has a word for each argument: in brackets if it may be
    left out, with two dots behind it if it is a list, and always for the very word.
    """
    pool.need_running()
    first, *words = words_of(line)
    if first not in calls:
        raise BadLine(line)
    call, form = calls[first]
    given = _arguments(line, words, form.split())
    return repr(call(pool, *given))


def _arguments(line, words, form):
    if form and form[-1].endswith(".."):
        many = len(form) - 1
        if len(words) < many:
            raise BadLine(line)
        items = [_argument(line, word, form[-1]) for word in words[many:]]
        return [*_each_argument(line, words[:many], form[:many]), items]
    least = len([kind for kind in form if not kind.startswith("[")])
    if not least <= len(words) <= len(form):
        raise BadLine(line)
    return _each_argument(line, words, form)


def _each_argument(line, words, form):
    return [_argument(line, word, kind) for word, kind in zip(words, form)]


def _argument(line, word, kind):
    if kind.strip("[.]") in NUMBERS:
        return number_told(word, line)
    if kind != "[always]":
        return word
    if word != "always":
        raise BadLine(line)
    return True
