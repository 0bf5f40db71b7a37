"""Ledgers: the vehicles of a desk as the lines of a table."""


def ledger_row(vehicle, place, units, runs, due):
    """A line of the table."""
    return f"{vehicle:>3} {place:<8} {units:>5} {runs:>5} {due:>4}"


def ledger(desk):
    """The list of the lines of a table: a header, and one line for each vehicle."""
    away = {vehicle: (line, f"{due:+d}") for vehicle, line, due in desk.out()}
    rows = [ledger_row("no", "place", "units", "runs", "due")]
    for vehicle in range(len(desk)):
        units, runs, _, _ = desk[vehicle]
        place, due = away.get(vehicle, ("home", "-"))
        rows.append(ledger_row(vehicle, place, units, runs, due))
    return rows
