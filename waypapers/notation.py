"""The written form of maps."""

from waypapers.errors import InvalidNotation
from waypapers.maps import DIGITS, Map, is_name

LONGEST_NUMBER = 6

# The words with which the first lines begin.
HEADS = ("day", "kinds", "places")


def format_map(chart):
    """Return the written form of a map."""
    lines = [f"day {chart.day}"]
    lines.append(" ".join(["kinds", *chart.kinds]))
    lines.append(" ".join(["places", *chart.places]))
    lines.extend([" ".join(road_words(road)) for road in chart.roads])
    lines.extend([f"bar {first} {second}" for first, second in chart.bars])
    return "\n".join(lines)


def road_words(road):
    """Return the words of the line of a road."""
    name, start, end, minutes, kinds, hours = road
    head = ["road", name, start, end, str(minutes)]
    return [*head, ":", *kinds, ":"] + hours_words(hours)


def hours_words(hours):
    """Return the words that write the hours of a road."""
    if hours is None:
        return ["always"]
    return [f"{opens}-{closes}" for opens, closes in hours]


def parse_map(text):
    """Return the map whose written form is the text."""
    rows = rows_of(text)
    _check_form(rows)
    parts = rows[len(HEADS):]
    return Map(
        day=int(rows[0][1]),
        kinds=rows[1][1:],
        places=rows[2][1:],
        roads=[read_road(words) for words in parts if words[0] == "road"],
        bars=[words[1:] for words in parts if words[0] == "bar"],
    )


def rows_of(text):
    """Return the words of each line of a text. Two spaces side by side, or one at an end, make an empty word."""
    return [line.split(" ") for line in text.split("\n")]


def _check_form(rows):
    """Raise InvalidNotation for the first line that cannot stand where it stands, or is missing."""
    for at in range(len(rows)):
        if not _can_stand(rows, at):
            raise InvalidNotation(at + 1)
    if len(rows) < len(HEADS):
        raise InvalidNotation(len(rows) + 1)


def _can_stand(rows, at):
    """Tell whether a line can stand where it stands, behind lines that can."""
    words = rows[at]
    if at < len(HEADS):
        return words[0] == HEADS[at] and _is_head(words)
    if words[0] == "road":
        # Bars end the text, so a bar anywhere ahead shows in the line directly ahead.
        return rows[at - 1][0] != "bar" and is_road(words)
    return words[0] == "bar" and len(words) == 3 and are_names(words[1:])


def _is_head(words):
    """Tell whether the words have the form of one of the first lines."""
    if words[0] == "day":
        return len(words) == 2 and is_number(words[1])
    return are_names(words[1:])


def is_road(words):
    """Tell whether the words have the form of the line of a road, whatever the first one is."""
    parts = parts_between_colons(words)
    if len(parts) != 3 or len(parts[0]) != 5:
        return False
    head, kinds, hours = parts
    return are_names(head[1:4]) and is_number(head[4]) and are_names(kinds) and are_hours(hours)


def read_road(words):
    """Return the road that words of the form of its line write."""
    head, kinds, hours = parts_between_colons(words)
    return (head[1], head[2], head[3], int(head[4]), tuple(kinds), read_hours(hours))


def parts_between_colons(words):
    """Return the lists of the words between the words that are a colon."""
    parts = [[]]
    for word in words:
        if word == ":":
            parts.append([])
        else:
            parts[-1].append(word)
    return parts


def are_hours(words):
    """Tell whether the words have the form of the hours of a road."""
    return words == ["always"] or all(_is_pair(word) for word in words)


def _is_pair(word):
    """Tell whether the word has the form of a pair of hours."""
    opens, _, closes = word.partition("-")
    return is_number(opens) and is_number(closes)


def read_hours(words):
    """Return the hours that words of their form write."""
    if words == ["always"]:
        return None
    return tuple([_read_pair(word) for word in words])


def _read_pair(word):
    """Return the pair of hours that a word of its form writes."""
    opens, _, closes = word.partition("-")
    return (int(opens), int(closes))


def are_names(words):
    """Tell whether all of the words are names."""
    return all(is_name(word) for word in words)


def is_number(word, longest=LONGEST_NUMBER):
    """Tell whether the word writes an integer, with so many digits at most."""
    if not 1 <= len(word) <= longest:
        return False
    return all(sign in DIGITS for sign in word) and (word == "0" or word[0] != "0")
