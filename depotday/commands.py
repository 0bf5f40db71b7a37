"""Commands: the deeds of a desk as texts."""

from depotday.depottext import ARROW, NO_NUMBER, number_of
from depotday.desks import Desk
from depotday.errors import BadCommand, DepotError

ALONE = ("follow", "undo", "redo")


def are_names(words):
    """True if each word can be that of a line or a page."""
    return all([word not in ("", ARROW) for word in words])


def are_numbers(words):
    """True if each word writes a vehicle."""
    return all([number_of(word) != NO_NUMBER for word in words])


def hear_parts(words):
    """The word `page` with the page that it names, if they are there, and the words of the vehicles."""
    at = 3 if words[1:2] == ["page"] else 1
    return words[1:at], words[at:]


def is_hear(words):
    """True if these are the words of news."""
    pages, vehicles = hear_parts(words)
    return (not pages or (len(pages) == 2 and are_names(pages))) and are_numbers(vehicles)


def answer_parts(words):
    """The words of the lines, of the vehicles that are sent and of those that are charged."""
    at = words.index(ARROW)
    return words[1:at:2], words[2:at:2], words[at + 1:]


def is_answer_row(words):
    """True if these are the words of an answer."""
    if ARROW not in words or words.index(ARROW) % 2 == 0:
        return False
    lines, sent, charged = answer_parts(words)
    return are_names(lines) and are_numbers(sent) and are_numbers(charged)


def is_command(row):
    """True if a row is a command."""
    words = row.split(" ")
    if "\n" in row:
        return False
    if words[0] == "hear":
        return is_hear(words)
    if words[0] == "answer":
        return is_answer_row(words)
    return row in ALONE


def do_hear(desk, words):
    pages, vehicles = hear_parts(words)
    numbers = [int(word) for word in vehicles]
    page = pages[1] if pages else ""
    desk.hear(*numbers, page=page)


def do_answer(desk, words):
    lines, sent, charged = answer_parts(words)
    orders = [(line, int(word)) for line, word in zip(lines, sent)]
    desk.answer(orders, [int(word) for word in charged])


def do_follow(desk, _):
    desk.follow()


def do_undo(desk, _):
    desk.undo()


def do_redo(desk, _):
    desk.redo()


DOERS = {
    "hear": do_hear,
    "answer": do_answer,
    "follow": do_follow,
    "undo": do_undo,
    "redo": do_redo,
}


def do_rows(desk, rows):
    """Do commands in order, and return their number."""
    for number, row in enumerate(rows, 1):
        if not is_command(row):
            raise BadCommand(number, None)
        words = row.split(" ")
        doer = DOERS[words[0]]
        try:
            doer(desk, words)
        except DepotError as error:
            raise BadCommand(number, error) from error
    return len(rows)


def do_all(desk, rows):
    """Do commands in order, or none at all, and return their number."""
    kept = desk.kept()
    try:
        return do_rows(desk, rows)
    except BadCommand:
        desk.restore(kept)
        raise


def run(desk, text, *, whole=False):
    """Do the commands of a text, and return their number."""
    rows = text.split("\n") if text else []
    return do_all(desk, rows) if whole else do_rows(desk, rows)


def would(desk, text):
    """What a desk would tell behind the commands of a text."""
    kept = desk.kept()
    run(desk, text, whole=True)
    told = (desk.now, desk.home(), desk.out(), desk.given, desk.used, desk.danger())
    desk.restore(kept)
    return told


def replay(day, rows, *, memory=50, most=2000):
    """A new desk that has done the rows of a log."""
    desk = Desk(day, memory=memory, most=most)
    do_rows(desk, rows)
    return desk
