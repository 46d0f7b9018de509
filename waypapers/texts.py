"""The written form of papers."""

from waypapers.errors import InvalidPaper
from waypapers.maps import is_name
from waypapers.notation import is_number, rows_of
from waypapers.papers import Paper, check_paper

LONGEST_NUMBER = 9


def paper_text(told):
    """Return the written form of a Paper."""
    lines = ["none"]
    if told.roads is not None:
        lines = [f"arrives {told.arrival}", *[f"by {name}" for name in told.roads]]
    lines.extend([f"low {name} {number}" for name, number in told.lows])
    return "\n".join(lines)


def parse_paper(text):
    """Return the Paper whose written form is the text."""
    rows = rows_of(text)
    for at in range(len(rows)):
        if not _can_stand(rows, at):
            raise InvalidPaper(at + 1)
    lows = [(words[1], int(words[2])) for words in rows if words[0] == "low"]
    if rows[0] == ["none"]:
        return Paper(None, None, lows)
    return Paper([words[1] for words in rows if words[0] == "by"], int(rows[0][1]), lows)


def _can_stand(rows, at):
    """Tell whether a line can stand where it stands, behind lines that can."""
    words = rows[at]
    if at == 0:
        return words == ["none"] or (len(words) == 2 and words[0] == "arrives" and _is_moment(words[1]))
    if words[0] == "by":
        # The roads stand directly behind the first line, so the line directly ahead tells whether there is room.
        return rows[at - 1][0] in ("arrives", "by") and len(words) == 2 and is_name(words[1])
    return len(words) == 3 and words[0] == "low" and is_name(words[1]) and _is_moment(words[2])


def _is_moment(word):
    """Tell whether a word writes a number of a paper."""
    return is_number(word, LONGEST_NUMBER)


def check_text(chart, kind, start, goal, moment, text):
    """Tell whether a text is that of a right Paper for the trip, without a search."""
    return check_paper(chart, kind, start, goal, moment, parse_paper(text))
