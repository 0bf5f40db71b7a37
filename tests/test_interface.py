"""The opening of "The interface": names, arguments and places are as written there."""

import importlib
import inspect
import unittest

FUNCTIONS = {
    "names.is_name": "text",
    "means.heaviest": "book weights",
    "means.most_in": "book weights rounds",
    "timing.check_times": "net times",
    "timing.passed": "net times number",
    "timing.broken": "net times",
    "paths.path_ends": "net path",
    "paths.is_ring": "net path",
    "paths.path_minutes": "net times path",
    "paths.ring_rounds": "net times ring",
    "bases.rounds": "net times",
    "bases.parts": "net ring",
    "islands.choices": "net",
    "islands.earliest": "net rounds",
    "islands.shuts": "net rounds ring",
    "islands.islands": "net",
    "islands.ring_range": "net ring",
    "lateness.late_break": "clock times",
    "lateness.slack": "clock times",
    "depottext.depot_text": "depot",
    "depottext.read_depot": "text",
    "outs.out_load": "day",
    "outs.peak": "day",
    "fewest.least_chain": "day",
    "cuts.need": "chain lines",
    "cuts.give": "chain lines *, width=None",
    "cuts.overdrawn": "chain *, width=None",
    "cuts.least_width": "chain",
    "roundplans.round_plan": "chain *, width=None",
    "ringed.ring_chain": "day",
    "ringed.ring_answer": "day",
    "standings.first_standing": "day",
    "standings.news_list": "day standing *, latest=False",
    "standings.queue_after": "day standing news",
    "answering.answers": "day standing news",
    "answering.after": "day standing news answer",
    "papers.decide": "day *, latest=False most=2000",
    "keeping.keep_round": "plan standing news",
    "surveys.beat": "plan rule",
    "least.least": "day part *, latest=False most=2000",
    "least.most_late": "day *, latest=False most=2000",
    "choosing.choose": "depot *, latest=False most=2000",
    "commands.run": "desk text *, whole=False",
    "commands.would": "desk text",
    "commands.replay": "day rows *, memory=50 most=2000",
    "ledgers.ledger": "desk",
}
CLASSES = {
    "loads.Load": "counts",
    "books.Book": "pages starts",
    "means.Heavy": None,
    "nets.Net": "round_length events spans",
    "bases.Base": "net",
    "lines.Line": "name least most use late",
    "clocks.Clock": "round_length lines ties=()",
    "cables.Cable": "width full",
    "turns.Turns": "patience vehicles bars=()",
    "depots.Depot": "clock cable turns book",
    "days.Day": "depot times",
    "chains.Chain": "day nexts waits",
    "roundplans.RoundPlan": "chain charges carries *, width=None",
    "queues.Queue": "patience bars=()",
    "games.Game": "day *, latest=False most=2000",
    "papers.Paper": "day latest",
    "papers.Table": None,
    "papers.Plan": None,
    "rules.Rule": "send_word charge_word",
    "surveys.Survey": "day rule *, latest=False most=2000",
    "least.Least": None,
    "choosing.Choice": None,
    "desks.Desk": "day *, memory=50 most=2000",
}
METHODS = {
    "loads.Load.put": "minute count",
    "loads.Load.capped": "width",
    "loads.Load.within": "other",
    "loads.Load.zero": "length",
    "loads.Load.of": "length begin minutes",
    "books.Book.lines_of": "index",
    "books.Book.followers_of": "index",
    "books.Book.index": "name",
    "books.Book.is_walk": "names",
    "books.Book.walks": "rounds",
    "books.Book.count_walks": "rounds",
    "books.Book.reachable": "",
    "nets.Net.plus": "*spans",
    "nets.Net.without": "*numbers",
    "nets.Net.pieces": "",
    "bases.Base.rings": "",
    "bases.Base.path": "first second",
    "clocks.Clock.index": "name",
    "clocks.Clock.event": "name side",
    "clocks.Clock.net": "",
    "clocks.Clock.sure_net": "",
    "depots.Depot.wanted": "page",
    "depots.Depot.is_barred": "last line",
    "depots.Depot.changed": "**more",
    "days.Day.of": "depot rounds",
    "days.Day.leaving": "page minute",
    "days.Day.changed": "**more",
    "days.Day.turned": "minutes",
    "chains.Chain.shortest": "day nexts",
    "chains.Chain.rings": "",
    "chains.Chain.ring_fleets": "",
    "chains.Chain.stay_load": "line",
    "chains.Chain.home_load": "",
    "chains.Chain.net": "",
    "chains.Chain.timetable": "",
    "roundplans.RoundPlan.at": "minute",
    "roundplans.RoundPlan.level": "line place",
    "queues.Queue.come": "vehicle line",
    "queues.Queue.send": "orders",
    "queues.Queue.last": "vehicle",
    "queues.Queue.passed": "vehicle",
    "queues.Queue.ahead": "vehicle",
    "queues.Queue.bound": "vehicle",
    "queues.Queue.choices": "line",
    "queues.Queue.order": "",
    "queues.Queue.clone": "",
    "games.Game.news": "standing",
    "games.Game.rank": "standing",
    "games.Game.standings": "",
    "papers.Paper.told": "",
    "papers.Paper.standings": "",
    "papers.Table.answer": "standing news",
    "papers.Table.told": "",
    "papers.Plan.news": "standing",
    "papers.Plan.rank": "standing",
    "papers.Plan.told": "",
    "rules.Rule.every": "",
    "rules.Rule.parse": "text",
    "surveys.Survey.row": "",
    "surveys.Survey.standings": "",
    "desks.Desk.hear": "*vehicles page=''",
    "desks.Desk.answer": "orders charge",
    "desks.Desk.advice": "",
    "desks.Desk.follow": "",
    "desks.Desk.danger": "",
    "desks.Desk.undo": "",
    "desks.Desk.redo": "",
    "desks.Desk.remember": "number",
    "desks.Desk.home": "",
    "desks.Desk.out": "",
}
SIGNS = {
    "loads.Load": "len iter getitem setitem contains bool abs eq add iadd sub or and xor mul rmul floordiv mod "
                  "lshift rshift",
    "books.Book": "len eq",
    "nets.Net": "eq",
    "bases.Base": "len",
    "lines.Line": "str eq",
    "clocks.Clock": "eq",
    "cables.Cable": "eq",
    "turns.Turns": "eq",
    "depots.Depot": "eq",
    "days.Day": "eq",
    "chains.Chain": "eq",
    "roundplans.RoundPlan": "eq",
    "queues.Queue": "len contains iter eq",
    "games.Game": "len contains iter",
    "papers.Paper": "len contains",
    "rules.Rule": "call str eq",
    "surveys.Survey": "len contains",
    "desks.Desk": "getitem len",
}
PROPERTIES = {
    "depots.Depot": "free plain ringed",
    "chains.Chain": "fits fleet",
    "surveys.Survey": "holds",
    "desks.Desk": "now page heard standing given used memory log",
}


def find(path):
    """What stands under a dotted name of the package."""
    file, *names = path.split(".")
    found = importlib.import_module("depotday." + file)
    for name in names:
        found = getattr(found, name)
    return found


def arguments(found):
    """The parameters as they stand in a `def`, with a bare star before those that are passed by name only."""
    words, starred = [], False
    for parameter in inspect.signature(found).parameters.values():
        if parameter.kind == parameter.KEYWORD_ONLY and not starred:
            words.append("*,")
        starred = starred or parameter.kind in (parameter.KEYWORD_ONLY, parameter.VAR_POSITIONAL)
        words.append(str(parameter))
    return " ".join(words)


class Interface(unittest.TestCase):
    def test_functions(self):
        for path, wanted in FUNCTIONS.items():
            self.assertEqual(arguments(find(path)), wanted, path)

    def test_classes(self):
        for path, wanted in CLASSES.items():
            self.assertTrue(inspect.isclass(find(path)), path)
            if wanted is not None:
                self.assertEqual(arguments(find(path)), wanted, path)

    def test_each_is_defined_in_its_own_file(self):
        for path in list(FUNCTIONS) + list(CLASSES):
            self.assertEqual(find(path).__module__, "depotday." + path.split(".")[0])

    def test_methods_stand_in_the_class_itself(self):
        for path, wanted in METHODS.items():
            owner, name = path.rsplit(".", 1)
            self.assertIn(name, vars(find(owner)))
            own = isinstance(vars(find(owner))[name], (staticmethod, classmethod))
            self.assertEqual(arguments(find(path)), wanted if own else ("self " + wanted).strip(), path)

    def test_signs_stand_in_the_class_itself(self):
        for path, names in SIGNS.items():
            for name in names.split():
                self.assertIn("__" + name + "__", vars(find(path)), path)

    def test_properties_stand_in_the_class_itself(self):
        for path, names in PROPERTIES.items():
            for name in names.split():
                self.assertIsInstance(vars(find(path))[name], property, path)
                self.assertEqual(vars(find(path))[name].fset is not None, name == "memory", path)

    def test_papers(self):
        for path in ("papers.Table", "papers.Plan"):
            self.assertEqual(find(path).__bases__, (find("papers.Paper"),))

    def test_class_values(self):
        self.assertEqual(vars(find("rules.Rule"))["WORDS"], ("first", "last", "fullest", "emptiest"))


if __name__ == "__main__":
    unittest.main()
