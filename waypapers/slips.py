"""The written form of sets of changes, and of the journals of desks."""

from waypapers.desk import Entry
from waypapers.errors import InvalidNotation
from waypapers.maps import is_name
from waypapers.notation import (
    are_hours,
    are_names,
    hours_words,
    is_number,
    is_road,
    parts_between_colons,
    read_hours,
    read_road,
    road_words,
    rows_of,
)


def format_changes(changes):
    """Return the written form of a set."""
    return "\n".join([_change_line(change) for change in changes])


def _change_line(change):
    """Return the line of a change."""
    match change:
        case ("road", road):
            return " ".join(road_words(road))
        case ("unroad", road):
            return " ".join(["unroad", *road_words(road)[1:]])
        case ("minutes", name, before, after):
            return f"minutes {name} {before} {after}"
        case ("kinds", name, before, after):
            return " ".join(["kinds", name, ":", *before, ":", *after])
        case ("hours", name, before, after):
            return " ".join(["hours", name, ":", *hours_words(before), ":", *hours_words(after)])
    return " ".join(change)


def parse_changes(text):
    """Return the changes that a text writes."""
    rows = _rows(text)
    for at, words in enumerate(rows):
        if not _is_change(words):
            raise InvalidNotation(at + 1)
    return [_read_change(words) for words in rows]


def _rows(text):
    """Return the words of each line of a text that may have no lines."""
    return [] if text == "" else rows_of(text)


def _is_change(words):
    """Tell whether the words have the form of a change."""
    word = words[0]
    if word in ("place", "unplace"):
        return len(words) == 2 and is_name(words[1])
    if word in ("road", "unroad"):
        return is_road(words)
    if word == "minutes":
        return len(words) == 4 and is_name(words[1]) and is_number(words[2]) and is_number(words[3])
    if word == "kinds":
        return _sets_parts(words, are_names)
    if word == "hours":
        return _sets_parts(words, are_hours)
    return word in ("bar", "unbar") and len(words) == 3 and are_names(words[1:])


def _sets_parts(words, are_part):
    """Tell whether the words have the form of a change from some words of a road to other ones.

    `are_part` is a function that tells whether words have the form of this part of a road.
    """
    parts = parts_between_colons(words)
    if len(parts) != 3 or len(parts[0]) != 2:
        return False
    head, before, after = parts
    return is_name(head[1]) and are_part(before) and are_part(after)


def _read_change(words):
    """Return the change that words of its form write."""
    word = words[0]
    if word in ("road", "unroad"):
        return (word, read_road(words))
    if word == "minutes":
        return (word, words[1], int(words[2]), int(words[3]))
    if word in ("kinds", "hours"):
        head, before, after = parts_between_colons(words)
        if word == "kinds":
            return (word, head[1], tuple(before), tuple(after))
        return (word, head[1], read_hours(before), read_hours(after))
    return tuple(words)


def format_journal(desk):
    """Return the written form of the journal of a desk."""
    return "\n".join(journal_lines(desk))


def journal_lines(desk):
    """Return the lines of the written form of the journal of a desk."""
    lines = []
    for entry in desk.entries:
        lines.append(f"set {entry.hand} {entry.base}")
        lines.extend([_change_line(change) for change in entry.changes])
        lines.append("end")
    return lines


def parse_journal(text):
    """Return the entries that a text writes."""
    rows = _rows(text)
    entries = []
    # The words of the line of a set that has no end yet, and its changes.
    head = []
    changes = []
    for at, words in enumerate(rows):
        if head == [] and _is_head(words):
            head = words
            changes = []
        elif head != [] and words == ["end"]:
            entries.append(Entry(head[1], int(head[2]), changes))
            head = []
        elif head != [] and _is_change(words):
            changes.append(_read_change(words))
        else:
            raise InvalidNotation(at + 1)
    if head != []:
        raise InvalidNotation(len(rows) + 1)
    return entries


def _is_head(words):
    """Tell whether the words have the form of the first line of an entry."""
    return len(words) == 3 and words[0] == "set" and is_name(words[1]) and is_number(words[2])
