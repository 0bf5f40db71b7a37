"""Vehicles that are out: in a round of all lines, and by the worst walk through the book."""

from depotday.loads import Load


def out_load(day):
    """How many vehicles are out in each minute if all lines are run in every round."""
    length = day.depot.clock.round_length
    load = Load.zero(length)
    for begin, minutes in zip(day.outs, day.tardy):
        load = load + Load.of(length, begin, minutes)
    return load


def rounds_out(day):
    """The greatest number of rounds in which one run can be out."""
    ends = [begin + minutes - 1 for begin, minutes in zip(day.outs, day.tardy)]
    return max(ends) // day.depot.clock.round_length + 1


def out_counts(day, walk):
    """How many vehicles are out in each minute of the last round of a walk, a list of indexes of pages."""
    length = day.depot.clock.round_length
    counts = [0] * length
    for ago, page in enumerate(walk[::-1]):
        for line in day.depot.wanted(page):
            for minute in range(length):
                counts[minute] += int(0 <= ago * length + minute - day.outs[line] < day.tardy[line])
    return counts


def short_walks(book, last):
    """Walks, short ones first, one for each list of at most so many pages that can be the last of a walk."""
    newest = [[page] for page in book.starts]
    seen = {}
    found = []
    while newest:
        longer = []
        for walk in list(newest):
            ending = tuple(walk[-last:])
            if ending not in seen:
                seen[ending] = True
                found.append(walk)
                longer.extend([walk + [after] for after in book.followers_of(walk[-1])])
        newest = longer
    return found


def peak(day):
    """The greatest number of vehicles out in one minute, with a walk and a minute of its last round."""
    book = day.depot.book
    best = None
    # What a run of an earlier round does is over, so walks that end alike are alike.
    for walk in short_walks(book, rounds_out(day)):
        counts = out_counts(day, walk)
        if best is None or max(counts) > best[0]:
            best = (max(counts), [book.names[page] for page in walk], counts.index(max(counts)))
    return best
