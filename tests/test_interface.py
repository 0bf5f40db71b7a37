"""The opening of "The interface": names, arguments and places are as written there."""

import importlib
import inspect
import unittest

FUNCTIONS = {
    "names.is_name": "text",
    "means.heaviest": "book weights",
    "means.most_in": "book weights rounds",
    "timing.check_times": "net times",
    "timing.passed": "net times number",
    "timing.broken": "net times",
    "paths.path_ends": "net path",
    "paths.is_ring": "net path",
    "paths.path_minutes": "net times path",
    "paths.ring_rounds": "net times ring",
    "bases.rounds": "net times",
    "bases.parts": "net ring",
    "islands.choices": "net",
    "islands.earliest": "net rounds",
    "islands.shuts": "net rounds ring",
    "islands.islands": "net",
    "islands.ring_range": "net ring",
    "lateness.late_break": "clock times",
    "lateness.slack": "clock times",
    "depottext.depot_text": "depot",
    "depottext.read_depot": "text",
    "outs.out_load": "day",
    "outs.peak": "day",
    "fewest.least_chain": "day",
    "cuts.need": "chain lines",
    "cuts.give": "chain lines *, width=None",
    "cuts.overdrawn": "chain *, width=None",
    "cuts.least_width": "chain",
    "roundplans.round_plan": "chain *, width=None",
    "ringed.ring_chain": "day",
    "ringed.ring_answer": "day",
}
CLASSES = {
    "loads.Load": "counts",
    "books.Book": "pages starts",
    "means.Heavy": None,
    "nets.Net": "round_length events spans",
    "bases.Base": "net",
    "lines.Line": "name least most use late",
    "clocks.Clock": "round_length lines ties=()",
    "cables.Cable": "width full",
    "turns.Turns": "patience vehicles bars=()",
    "depots.Depot": "clock cable turns book",
    "days.Day": "depot times",
    "chains.Chain": "day nexts waits",
    "roundplans.RoundPlan": "chain charges carries *, width=None",
}
METHODS = {
    "loads.Load.put": "minute count",
    "loads.Load.capped": "width",
    "loads.Load.within": "other",
    "loads.Load.zero": "length",
    "loads.Load.of": "length begin minutes",
    "books.Book.lines_of": "index",
    "books.Book.followers_of": "index",
    "books.Book.index": "name",
    "books.Book.is_walk": "names",
    "books.Book.walks": "rounds",
    "books.Book.count_walks": "rounds",
    "books.Book.reachable": "",
    "nets.Net.plus": "*spans",
    "nets.Net.without": "*numbers",
    "nets.Net.pieces": "",
    "bases.Base.rings": "",
    "bases.Base.path": "first second",
    "clocks.Clock.index": "name",
    "clocks.Clock.event": "name side",
    "clocks.Clock.net": "",
    "clocks.Clock.sure_net": "",
    "depots.Depot.wanted": "page",
    "depots.Depot.is_barred": "last line",
    "depots.Depot.changed": "**more",
    "days.Day.of": "depot rounds",
    "days.Day.leaving": "page minute",
    "days.Day.changed": "**more",
    "days.Day.turned": "minutes",
    "chains.Chain.shortest": "day nexts",
    "chains.Chain.rings": "",
    "chains.Chain.ring_fleets": "",
    "chains.Chain.stay_load": "line",
    "chains.Chain.home_load": "",
    "chains.Chain.net": "",
    "chains.Chain.timetable": "",
    "roundplans.RoundPlan.at": "minute",
    "roundplans.RoundPlan.level": "line place",
}
SIGNS = {
    "loads.Load": "len iter getitem setitem contains bool abs eq add iadd sub or and xor mul rmul floordiv mod "
                  "lshift rshift",
    "books.Book": "len eq",
    "nets.Net": "eq",
    "bases.Base": "len",
    "lines.Line": "str eq",
    "clocks.Clock": "eq",
    "cables.Cable": "eq",
    "turns.Turns": "eq",
    "depots.Depot": "eq",
    "days.Day": "eq",
    "chains.Chain": "eq",
    "roundplans.RoundPlan": "eq",
}
PROPERTIES = {
    "depots.Depot": "free plain ringed",
    "chains.Chain": "fits fleet",
}


def find(path):
    """What stands under a dotted name of the package."""
    file, *names = path.split(".")
    found = importlib.import_module("depotday." + file)
    for name in names:
        found = getattr(found, name)
    return found


def arguments(found):
    """The parameters as they stand in a `def`, with a bare star before those that are passed by name only."""
    words, starred = [], False
    for parameter in inspect.signature(found).parameters.values():
        if parameter.kind == parameter.KEYWORD_ONLY and not starred:
            words.append("*,")
        starred = starred or parameter.kind in (parameter.KEYWORD_ONLY, parameter.VAR_POSITIONAL)
        words.append(str(parameter))
    return " ".join(words)


class Interface(unittest.TestCase):
    def test_functions(self):
        for path, wanted in FUNCTIONS.items():
            self.assertEqual(arguments(find(path)), wanted, path)

    def test_classes(self):
        for path, wanted in CLASSES.items():
            self.assertTrue(inspect.isclass(find(path)), path)
            if wanted is not None:
                self.assertEqual(arguments(find(path)), wanted, path)

    def test_each_is_defined_in_its_own_file(self):
        for path in list(FUNCTIONS) + list(CLASSES):
            self.assertEqual(find(path).__module__, "depotday." + path.split(".")[0])

    def test_methods_stand_in_the_class_itself(self):
        for path, wanted in METHODS.items():
            owner, name = path.rsplit(".", 1)
            self.assertIn(name, vars(find(owner)))
            own = isinstance(vars(find(owner))[name], (staticmethod, classmethod))
            self.assertEqual(arguments(find(path)), wanted if own else ("self " + wanted).strip(), path)

    def test_signs_stand_in_the_class_itself(self):
        for path, names in SIGNS.items():
            for name in names.split():
                self.assertIn("__" + name + "__", vars(find(path)), path)


    def test_properties_stand_in_the_class_itself(self):
        for path, names in PROPERTIES.items():
            for name in names.split():
                self.assertIsInstance(vars(find(path))[name], property, path)


if __name__ == "__main__":
    unittest.main()
