"""The text of a depot: writing it and reading it."""

from depotday.books import Book, all_differ, are_pages, check_pages
from depotday.cables import Cable
from depotday.clocks import Clock, check_round
from depotday.depots import Depot, check_known, check_uses
from depotday.errors import BadLine, DepotError
from depotday.lines import Line
from depotday.names import is_name
from depotday.turns import Turns, check_patience

MOST_DIGITS = 3
ARROW = ">"
# No kind of line lets a number be negative, so this one is refused wherever it stands.
NO_NUMBER = -1
# What each kind of line can stand behind; the empty word stands for the top of the text.
STANDS_BEHIND = {
    "round": ("",),
    "line": ("round", "line"),
    "tie": ("line", "tie"),
    "cable": ("line", "tie"),
    "patience": ("cable",),
    "vehicle": ("patience", "vehicle"),
    "bar": ("vehicle", "bar"),
    "page": ("vehicle", "bar", "page"),
    "start": ("page",),
}


def page_row(book, page):
    """The written form of a page."""
    followers = [book.names[at] for at in book.followers_of(page)]
    return " ".join(["page", book.names[page], *book.lines_of(page), ARROW] + followers)


def depot_text(depot):
    """The text of a depot."""
    clock, turns, book = depot.clock, depot.turns, depot.book
    patience = "none" if turns.patience is None else str(turns.patience)
    rows = [f"round {clock.round_length}"]
    rows.extend([str(line) for line in clock.lines])
    for first, side, second, other_side, least, most in clock.ties:
        rows.append(f"tie {first} {side} {second} {other_side} {least} {most}")
    rows.append(f"cable {depot.cable.width} {depot.cable.full}")
    rows.append(f"patience {patience}")
    rows.extend([f"vehicle {name}" for name in turns.vehicles])
    rows.extend([f"bar {first} {second}" for first, second in turns.bars])
    rows.extend([page_row(book, page) for page in range(len(book))])
    rows.append(" ".join(["start"] + [book.names[at] for at in book.starts]))
    return "\n".join(rows)


class Reading:
    """What the lines of a text have told so far; `number` is that of the line that is read."""

    def __init__(self):
        self.number = 0
        self.kind = ""
        self.round_length = 0
        self.lines = []
        self.ties = []
        self.cable = None
        self.patience = None
        self.vehicles = []
        self.bars = []
        self.pages = []
        self.page_rows = []
        self.starts = []


def check_form(reading, is_right):
    """Refuse a line that does not have the form of its kind."""
    if not is_right:
        raise BadLine(reading.number)


def number_of(word):
    """The number that a word writes, or no number."""
    if not word.isdigit() or len(word) > MOST_DIGITS or (len(word) > 1 and word[0] == "0"):
        return NO_NUMBER
    return int(word)


def read_round(reading, words):
    check_form(reading, len(words) == 2)
    reading.round_length = number_of(words[1])
    check_round(reading.round_length)


def read_line(reading, words):
    check_form(reading, len(words) == 8 and words[4] == "use" and words[6] == "late")
    least, most, use, late = [number_of(words[at]) for at in (2, 3, 5, 7)]
    reading.lines.append(Line(words[1], least, most, use, late))
    Clock(reading.round_length, reading.lines)


def read_tie(reading, words):
    check_form(reading, len(words) == 7)
    reading.ties.append(tuple(words[1:5]) + (number_of(words[5]), number_of(words[6])))
    Clock(reading.round_length, reading.lines, reading.ties)


def read_cable(reading, words):
    check_form(reading, len(words) == 3)
    reading.cable = Cable(number_of(words[1]), number_of(words[2]))
    check_uses(reading.lines, reading.cable.full)


def read_patience(reading, words):
    check_form(reading, len(words) == 2)
    reading.patience = None if words[1] == "none" else number_of(words[1])
    check_patience(reading.patience)


def read_vehicle(reading, words):
    check_form(reading, len(words) == 2)
    reading.vehicles.append(words[1])
    Turns(reading.patience, reading.vehicles)
    check_known("vehicle", [words[1:]], reading.lines)


def read_bar(reading, words):
    check_form(reading, len(words) == 3)
    reading.bars.append((words[1], words[2]))
    Turns(reading.patience, reading.vehicles, reading.bars)
    check_known("bar", reading.bars, reading.lines)


def read_page(reading, words):
    """Take a page; its followers can stand below it, so they need only look like names of pages."""
    rest = words[2:]
    check_form(reading, ARROW in rest)
    lines, followers = rest[:rest.index(ARROW)], rest[rest.index(ARROW) + 1:]
    reading.pages.append((words[1], lines, followers))
    reading.page_rows.append(reading.number)
    check_pages(reading.pages)
    check_known("page", [lines], reading.lines)
    check_form(reading, len(followers) > 0 and all_differ(followers) and all([is_name(name) for name in followers]))


def read_start(reading, words):
    reading.starts = words[1:]
    check_form(reading, are_pages(reading.starts, [page[0] for page in reading.pages]))


READERS = {
    "round": read_round,
    "line": read_line,
    "tie": read_tie,
    "cable": read_cable,
    "patience": read_patience,
    "vehicle": read_vehicle,
    "bar": read_bar,
    "page": read_page,
    "start": read_start,
}


def read_row(reading, words):
    """Take one line of a text, and refuse a wrong one by any error of the package."""
    kind = words[0]
    check_form(reading, kind in STANDS_BEHIND and reading.kind in STANDS_BEHIND[kind])
    reader = READERS[kind]
    reader(reading, words)
    reading.kind = kind


def check_followers(reading):
    """Refuse the first page with a follower that is not a page."""
    names = [page[0] for page in reading.pages]
    for row, page in zip(reading.page_rows, reading.pages):
        if not are_pages(page[2], names):
            raise BadLine(row)


def read_depot(text):
    """The depot with this text."""
    rows = text.split("\n")
    reading = Reading()
    for row in rows:
        reading.number += 1
        words = row.split(" ")
        try:
            read_row(reading, words)
        except DepotError:
            raise BadLine(reading.number) from None
    if reading.kind != "start":
        raise BadLine(len(rows) + 1)
    check_followers(reading)
    clock = Clock(reading.round_length, reading.lines, reading.ties)
    turns = Turns(reading.patience, reading.vehicles, reading.bars)
    return Depot(clock, reading.cable, turns, Book(reading.pages, reading.starts))
