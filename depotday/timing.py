"""Timetables of a net, and the minutes that pass on its spans."""

from depotday.errors import BadTimes, BrokenSpan, UnknownSpan


def check_times(net, times):
    """Refuse what is not a timetable of the net."""
    for event in range(max(net.events, len(times))):
        if event >= net.events or event >= len(times) or not 0 <= times[event] < net.round_length:
            raise BadTimes(event)


def minutes_on(net, times, number):
    """The minutes that pass on a span that exists, by a timetable that is one."""
    start, end, least, _ = net.spans[number]
    return least + (times[end] - times[start] - least) % net.round_length


def passed(net, times, number):
    """The minutes that pass on a span, whether it is kept or not."""
    check_times(net, times)
    if not 0 <= number < len(net.spans):
        raise UnknownSpan(number)
    return minutes_on(net, times, number)


def broken(net, times):
    """The ascending list of the numbers of the spans that are not kept."""
    check_times(net, times)
    return [number for number, span in enumerate(net.spans) if minutes_on(net, times, number) > span[3]]


def check_kept(net, times):
    """Refuse what is not a timetable that keeps the net."""
    missed = broken(net, times)
    if missed:
        raise BrokenSpan(missed[0])
