"""Means: what a book can want in the long run, and in so many rounds."""

from math import gcd

from depotday.books import check_rounds


class Heavy:
    """The greatest mean of a ring of a book, such a ring, and the worths of the pages."""

    def __init__(self, mean, ring, worths):
        self.mean = mean
        self.ring = list(ring)
        self.worths = list(worths)


def page_weights(book, weights):
    """The weight of each page."""
    return [sum([weights.get(line, 0) for line in book.lines_of(at)]) for at in range(len(book))]


def short_rings(book):
    """The rings, as lists of indexes, to which some walk comes and that come to no page twice."""
    rings = []
    waiting = [[at] for at in book.reachable()]
    while waiting:
        row = waiting.pop()
        followers = book.followers_of(row[-1])
        if row[0] in followers:
            rings.append(row)
        waiting.extend([row + [after] for after in followers if after not in row])
    return rings


def one_more(book, gains, sums):
    """For each page, its gain and the greatest sum of a follower together."""
    return [gains[at] + max([sums[after] for after in book.followers_of(at)]) for at in range(len(book))]


def worths_of(book, gains):
    """The worth of each page, None where no walk comes."""
    found = book.reachable()
    worths = [0] * len(book)
    # No ring has a positive sum, so a list that comes to a page twice is never needed.
    for _ in range(len(book)):
        worths = [max(0, worth) for worth in one_more(book, gains, worths)]
    return [worths[at] if at in found else None for at in range(len(book))]


def heaviest(book, weights):
    """The greatest mean of a ring to which some walk comes, with a ring and the worths."""
    by_page = page_weights(book, weights)
    # Every ring falls into rings that come to no page twice, and one of these has at least its mean.
    best, top = [], 0
    for ring in short_rings(book):
        total = sum([by_page[at] for at in ring])
        if not best or total * len(best) > top * len(ring):
            best, top = ring, total
    shared = gcd(top, len(best))
    num, den = top // shared, len(best) // shared
    gains = [den * weight - num for weight in by_page]
    return Heavy((num, den), [book.names[at] for at in best], worths_of(book, gains))


def most_in(book, weights, rounds):
    """The greatest weight of a walk with so many pages."""
    check_rounds(rounds)
    by_page = page_weights(book, weights)
    sums = [0] * len(book)
    for _ in range(rounds):
        sums = one_more(book, by_page, sums)
    return max([sums[at] for at in book.starts])
