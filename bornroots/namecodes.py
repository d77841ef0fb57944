"""Names, their numbers, and the texts of roots (points 0.2 and 1 of the document)."""

from bornroots.errors import BadName

LETTERS = "abcdefghijklmnopqrstuvwxyz"
LONGEST = 4


def is_name(text):
    """Whether any value is a text of 1 to 4 letters a to z."""
    if not isinstance(text, str) or not 1 <= len(text) <= LONGEST:
        return False
    return all(letter in LETTERS for letter in text)


def need_name(text):
    """Raise BadName(text) for any value that is no name."""
    if not is_name(text):
        raise BadName(text)


def name_number(name):
    """The number of a name: its letters as figures 1 to 26 of base 27."""
    number = 0
    for letter in name:
        number = 27 * number + LETTERS.index(letter) + 1
    return number


def name_of(number):
    """The name with this number."""
    name = ""
    while number > 0:
        name = LETTERS[number % 27 - 1] + name
        number = number // 27
    return name


def is_name_number(number):
    """Whether some name has this number."""
    name = name_of(number)
    return is_name(name) and name_number(name) == number


def root_words(text):
    """The volume's name and the snapshot's, or None for a head, of a root's text."""
    words = text.split("@") if isinstance(text, str) else []
    if len(words) not in (1, 2) or not all(is_name(word) for word in words):
        raise BadName(text)
    return (words[0], words[1] if len(words) == 2 else None)


def root_text(vol, snap):
    """The text of a root; snap is None for a head."""
    return vol if snap is None else f"{vol}@{snap}"
