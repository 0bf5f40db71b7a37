"""Flows: as many units as can be brought from one place to another along roads with limited room."""


def find_way(room, source, sink):
    """Places from the source to the sink with room on each road between, None if there is no such way."""
    before = {source: source}
    waiting = [source]
    while waiting and sink not in before:
        place = waiting.pop()
        for after, free_room in enumerate(room[place]):
            if free_room > 0 and after not in before:
                before[after] = place
                waiting.append(after)
    if sink not in before:
        return None
    way = [sink]
    while way[-1] != source:
        way.append(before[way[-1]])
    return way[::-1]


def greatest_flow(limits, source, sink):
    """A flow of the most units; limits and flow have a row for each place, with a number for each other place."""
    room = [list(row) for row in limits]
    way = find_way(room, source, sink)
    while way is not None:
        for place, after in zip(way, way[1:]):
            room[place][after] -= 1
            room[after][place] += 1
        way = find_way(room, source, sink)
    return [[max(0, limit - left) for limit, left in zip(row, rest)] for row, rest in zip(limits, room)]
