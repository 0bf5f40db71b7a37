"""Books: which lines can be wanted in which round."""

from depotday.errors import BadBook, BadNumber, UnknownName, UnknownPage
from depotday.names import is_name

MOST_PAGES = 4
MOST_LINES = 8
MOST_ROUNDS = 200


def all_differ(words):
    """True if no word occurs twice."""
    return len(set(words)) == len(words)


def are_lines(lines):
    """True if these can be the lines of a page."""
    return len(lines) <= MOST_LINES and all_differ(lines) and all([is_name(line) for line in lines])


def are_pages(chosen, names):
    """True if these are one or more different names of pages."""
    return len(chosen) > 0 and all_differ(chosen) and all([name in names for name in chosen])


def check_pages(pages):
    """Refuse a wrong number of pages, wrong names of pages and wrong lines."""
    if not 1 <= len(pages) <= MOST_PAGES:
        raise BadBook("pages", 0)
    names = [page[0] for page in pages]
    for at, (name, lines, _) in enumerate(pages):
        if not is_name(name) or name in names[:at] or not are_lines(lines):
            raise BadBook("page", at)


def check_order(pages, starts):
    """Refuse wrong followers and starts."""
    names = [page[0] for page in pages]
    for at, page in enumerate(pages):
        if not are_pages(page[2], names):
            raise BadBook("followers", at)
    if not are_pages(starts, names):
        raise BadBook("starts", 0)


def check_rounds(rounds):
    """Refuse what cannot be a number of rounds to count or weigh."""
    if not 0 <= rounds <= MOST_ROUNDS:
        raise BadNumber(rounds)


def ascending_indexes(chosen, names):
    """The ascending tuple of the indexes of the chosen names."""
    return tuple(sorted([names.index(name) for name in chosen]))


class Book:
    """Pages of lines, and which page can come after which."""

    def __init__(self, pages, starts):
        check_pages(pages)
        check_order(pages, starts)
        self.names = tuple([page[0] for page in pages])
        self.starts = ascending_indexes(starts, self.names)
        self._lines = tuple([tuple(page[1]) for page in pages])
        self._followers = tuple([ascending_indexes(page[2], self.names) for page in pages])

    def __len__(self):
        return len(self.names)

    def __eq__(self, other):
        return (isinstance(other, Book) and self.names == other.names and self._lines == other._lines
                and self._followers == other._followers and self.starts == other.starts)

    def _check_page(self, index):
        if not 0 <= index < len(self.names):
            raise UnknownPage(index)

    def lines_of(self, index):
        """The lines of a page, in the order passed."""
        self._check_page(index)
        return self._lines[index]

    def followers_of(self, index):
        """The ascending tuple of the indexes of the followers of a page."""
        self._check_page(index)
        return self._followers[index]

    def index(self, name):
        """The index of the page with this name."""
        if name not in self.names:
            raise UnknownName(name)
        return self.names.index(name)

    def is_walk(self, names):
        """True if these names of pages are a walk."""
        coming = self.starts
        for name in names:
            if name not in self.names or self.names.index(name) not in coming:
                return False
            coming = self._followers[self.names.index(name)]
        return True

    def walks(self, rounds):
        """Every walk with so many pages, in the order of the indexes of their pages."""
        waiting = [[]]
        while waiting:
            walk = waiting.pop()
            if len(walk) == rounds:
                yield [self.names[at] for at in walk]
            elif len(walk) < rounds:
                coming = self._followers[walk[-1]] if walk else self.starts
                # The last one that is put there is the next one that is taken.
                waiting.extend([walk + [at] for at in reversed(list(coming))])

    def count_walks(self, rounds):
        """The number of the walks with so many pages."""
        check_rounds(rounds)
        if rounds == 0:
            return 1
        ways = [1] * len(self.names)
        for _ in range(rounds - 1):
            ways = [sum([ways[after] for after in followers]) for followers in self._followers]
        return sum([ways[at] for at in self.starts])

    def reachable(self):
        """The ascending list of the indexes of the pages to which some walk comes."""
        found = []
        waiting = list(self.starts)
        while waiting:
            at = waiting.pop()
            if at not in found:
                found.append(at)
                waiting.extend(self._followers[at])
        return sorted(found)
