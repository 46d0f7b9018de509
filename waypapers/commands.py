"""The commands of sessions."""

from waypapers.maps import is_name
from waypapers.notation import is_number

# What the words behind the first one of each command have to be.
FORMS = {
    "map": ("name",),
    "set": ("name", "name", "number"),
    "back": ("name", "name", "number"),
    "print": ("name", "number"),
    "journal": ("name",),
    "version": ("name",),
    "route": ("name", "number", "name", "name", "name", "number"),
    "maps": (),
}


def split_words(line):
    """Return the words of a line: its parts between spaces that are not empty."""
    return [word for word in line.split(" ") if word != ""]


def is_command(words):
    """Tell whether the words are a command."""
    if words[0] not in FORMS or len(words) != len(FORMS[words[0]]) + 1:
        return False
    return all([_has_form(word, form) for word, form in zip(words[1:], FORMS[words[0]])])


def _has_form(word, form):
    """Tell whether a word is a name, or a number, as the form asks for."""
    return is_number(word) if form == "number" else is_name(word)
