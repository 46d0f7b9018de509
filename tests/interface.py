"""The interface of the document: what stands in which file, with its methods and arguments."""

import pathlib

from waypapers.desk import Desk
from waypapers.maps import Map
from waypapers.session import Session

FOLDER = pathlib.Path(__file__).resolve().parent.parent / "waypapers"

INTERFACE = {
    "errors": (
        "WaypapersError", "InvalidMap", "InvalidQuestion", "NothingToUndo", "NothingToRedo", "UnknownName",
        "InvalidRoute", "InvalidSet", "Conflict", "UnknownVersion", "InvalidNotation", "InvalidPaper", "NameInUse",
    ),
    "maps": ("is_name", "Map"),
    "notation": ("format_map", "parse_map"),
    "travel": ("enter", "last_entry", "arrive", "run", "waiting"),
    "routes": ("Route", "labels", "places_from", "earliest"),
    "papers": ("Paper", "paper", "check_paper"),
    "latest": ("Latest", "latest_start", "arrivals_from", "quickest", "slowest"),
    "apart": ("Apart", "apart", "check_apart", "vital_roads"),
    "delays": ("delays", "worst_delay"),
    "tours": ("Tour", "tour"),
    "sets": ("applied", "taken_back", "touched", "leaned_on", "clashes", "are_apart"),
    "desk": ("Entry", "Desk", "replayed", "merged"),
    "slips": ("format_changes", "parse_changes", "format_journal", "parse_journal"),
    "commands": ("split_words", "is_command"),
    "session": ("Session",),
    "differences": ("difference", "conflicts", "merged_maps"),
    "texts": ("paper_text", "parse_paper", "check_text"),
    "journeys": ("Meeting", "Relay", "meeting", "meeting_places", "relay"),
    "ranges": ("within", "range_paper", "check_range", "nearest", "unreached"),
    "reach": ("reached", "reach_table", "traps", "rounds_of_roads"),
}

METHODS = {
    Map: (
        "road_names", "road", "check_place", "check_kind", "roads_from", "roads_to", "is_barred", "may_follow",
        "followers", "may_use", "with_road", "without_road", "with_hours", "with_place", "without_place", "with_bar",
        "without_bar",
    ),
    Desk: (
        "version", "map_at", "entry", "conflicts", "hand_in", "take_back", "hands", "touched_by", "before",
    ),
    Session: ("run",),
}

# The arguments of the interface, by their names.
ARGUMENTS = {
    "routes.Route": "roads arrival",
    "routes.labels": "chart kind start moment",
    "routes.places_from": "chart kind start moment",
    "routes.earliest": "chart kind start goal moment",
    "papers.Paper": "roads arrival lows",
    "papers.paper": "chart kind start goal moment",
    "papers.check_paper": "chart kind start goal moment told",
    "latest.Latest": "moment roads arrival",
    "latest.latest_start": "chart kind start goal by",
    "latest.arrivals_from": "chart kind start goal moments",
    "latest.quickest": "chart kind start goal moments",
    "latest.slowest": "chart kind start goal moments",
    "apart.Apart": "routes cut",
    "apart.apart": "chart kind start goal",
    "apart.check_apart": "chart kind start goal routes cut",
    "apart.vital_roads": "chart kind start goal",
    "delays.delays": "chart kind start goal moment",
    "delays.worst_delay": "chart kind start goal moment",
    "tours.Tour": "roads arrival order",
    "tours.tour": "chart kind start stops moment goal",
    "sets.applied": "chart changes",
    "sets.taken_back": "changes",
    "sets.touched": "changes",
    "sets.leaned_on": "changes",
    "sets.clashes": "changes others",
    "sets.are_apart": "changes others",
    "desk.Entry": "hand base changes",
    "desk.Desk": "chart",
    "desk.replayed": "chart entries",
    "desk.merged": "chart sets",
    "slips.format_changes": "changes",
    "slips.parse_changes": "text",
    "slips.format_journal": "desk",
    "slips.parse_journal": "text",
    "commands.split_words": "line",
    "commands.is_command": "words",
    "session.Session": "",
    "differences.difference": "old new",
    "differences.conflicts": "base one other",
    "differences.merged_maps": "base one other",
    "texts.paper_text": "told",
    "texts.parse_paper": "text",
    "texts.check_text": "chart kind start goal moment text",
    "journeys.Meeting": "place moment routes",
    "journeys.Relay": "place handed routes",
    "journeys.meeting": "chart trips",
    "journeys.meeting_places": "chart trips until",
    "journeys.relay": "chart one other goal",
    "ranges.within": "chart kind start moment minutes",
    "ranges.range_paper": "chart kind start moment minutes",
    "ranges.check_range": "chart kind start moment minutes places paper",
    "ranges.nearest": "chart kind start goals moment",
    "ranges.unreached": "chart kind start",
    "reach.reached": "chart kind place",
    "reach.reach_table": "chart kind",
    "reach.traps": "chart kind home",
    "reach.rounds_of_roads": "chart kind",
}

METHOD_ARGUMENTS = {
    Desk: {
        "map_at": "number", "entry": "number", "conflicts": "base changes", "hand_in": "hand base changes",
        "take_back": "hand number", "hands": "", "touched_by": "thing", "before": "thing number",
    },
    Session: {"run": "text"},
}


def sources():
    """Return the path and the text of each file of the package."""
    return [(path, path.read_text(encoding="utf-8")) for path in sorted(FOLDER.glob("*.py"))]
