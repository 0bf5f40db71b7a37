"""The fewest vehicles with which a chain can run a day."""

from depotday.chains import Chain


def all_orders(number):
    """All lists that have each of the numbers below this one once."""
    rows = [[]]
    for _ in range(number):
        rows = [row + [line] for row in rows for line in range(number) if line not in row]
    return rows


def least_chain(day):
    """A chain that fits and needs as few vehicles as any chain that fits."""
    best = None
    for nexts in all_orders(len(day.outs)):
        chain = Chain.shortest(day, nexts)
        if best is None or chain.fleet < best.fleet:
            best = chain
    return best
