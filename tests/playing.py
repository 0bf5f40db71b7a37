"""What tests of desks use: all that a desk tells, and plays of it by chance."""

import copy

from depotday.answering import after, answers
from depotday.errors import DepotError, NothingToRedo, NothingToUndo
from depotday.games import Game
from depotday.standings import news_list, queue_after


def copied(desk):
    """A desk like this one; the game, which never changes, is shared to save time."""
    return copy.deepcopy(desk, {id(part): part for part in vars(desk).values() if isinstance(part, Game)})


def tells(desk):
    """All that points [72] and [75] tell."""
    vehicles = [desk[vehicle] for vehicle in range(len(desk))]
    advice = desk.advice() if desk.heard else None
    return [desk.now, desk.page, desk.heard, desk.standing, desk.given, desk.used, desk.memory, desk.log, vehicles,
            desk.home(), desk.out(), desk.danger(), advice]


def can_be_done(call, nothing):
    """How often a call goes until it raises."""
    for count in range(1000):
        try:
            call()
        except nothing:
            return count
    raise AssertionError("it never ends")


def tells_more(desk):
    """All that a desk tells, now and if all is taken back or done again."""
    told = [tells(desk)]
    for word, nothing in (("undo", NothingToUndo), ("redo", NothingToRedo)):
        other = copied(desk)
        told += [can_be_done(getattr(other, word), nothing), tells(other)]
    return told


def refused_by(desk, error, values, call, *args, **more):
    """What is wrong with a refusal: it has to be of this kind, and to leave the desk as it was."""
    before = tells_more(desk)
    try:
        call(*args, **more)
    except DepotError as found:
        if type(found) is not error or list(vars(found).values()) != list(values):
            return f"{type(found).__name__} {vars(found)}"
        return None if tells_more(desk) == before else "the desk is changed"
    return "nothing is refused"


def out_order(desk, day):
    """The vehicles that are out, in the order of the standing."""
    rows = sorted((day.depot.clock.index(line), due, vehicle) for vehicle, line, due in desk.out())
    return [vehicle for _, _, vehicle in rows]


def queue_order(desk, day):
    """The vehicles at home behind the news, in the order of `queue_after`."""
    if not day.depot.free:
        return desk.home()
    names = [line.name for line in day.depot.clock.lines]

    def row(vehicle):
        units, _, last, _ = desk[vehicle]
        return units, names.index(last) if day.depot.turns.bars else -1
    return sorted(desk.home(), key=row)


def hear_by_chance(chance, desk, day):
    """Let the desk hear some news of its standing, which is returned."""
    page, came = news = chance.choice(news_list(day, desk.standing))
    vehicles = [out_order(desk, day)[at] for at in came]
    desk.hear(*chance.sample(vehicles, len(vehicles)), page=day.depot.book.names[page] if desk.now[1] == 0 else "")
    return news


def answer_by_chance(chance, desk, day, news):
    """Let the desk answer by some answer, and return the standing to which it leads, or None without an answer."""
    right = answers(day, desk.standing, news)
    if not right:
        return None
    sent, charged = answer = chance.choice(right)
    order = queue_order(desk, day)
    lines = [day.depot.clock.lines[line].name for line in day.leaving(news[0], desk.now[1])]
    orders = [(line, order[at]) for line, at in zip(lines, sent)]
    coming = after(day, desk.standing, news, answer)
    assert len(queue_after(day, desk.standing, news)) == len(order)
    desk.answer(chance.sample(orders, len(orders)), chance.sample([order[at] for at in charged], len(charged)))
    return coming


def play(chance, desk, day, minutes):
    """Go on by chance for some minutes, or until there is no answer."""
    for _ in range(minutes):
        if answer_by_chance(chance, desk, day, hear_by_chance(chance, desk, day)) is None:
            return
