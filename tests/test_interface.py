"""The interface of the document: names, parameters, and where each is defined."""

import ast
import importlib
import inspect
import os
import unittest

PLACE = os.path.join(os.path.dirname(os.path.dirname(os.path.abspath(__file__))), "nearhours")

FUNCTIONS = {
    "kinds": {name: "thing" for name in ("is_integer", "is_number", "is_name", "is_towers", "is_fraction")},
    "townchecker": {"lets_town": "thing"},
    "townparts": {"wire_of": "town one other", "neighbors": "town tower", "widest": "town"},
    "runchecker": {"lets_run": "town thing"},
    "runs": {"true_run": "town gains lates", "is_full": "town run", "letters_of": "town run lot",
             "moved_run": "town run gains"},
    "towntexts": {"town_text": "town", "run_text": "run"},
    "townreadings": {"town_read": "text", "run_read": "town text"},
    "ties": {"ties_of": "town run lot"},
    "ways": {"way": "town run lot one other", "chain_of": "town run lot one other"},
    "worlds": {"some_gains": "town run lot", "do_fit": "town run lot gains", "does_explain": "town run lot"},
    "clashes": {"clash": "town run lot"},
    "explaining": {"explain_paper": "town run lot"},
    "explainchecker": {"lets_explained": "town run lot thing"},
    "fearchecker": {"lets_fears": "town thing"},
    "fears": {"is_feared": "town fears lot", "feared_lots": "town fears", "greatest_fears": "town fears"},
    "suspects": {name: "town fears run" for name in (
        "suspects", "least_suspects", "kernel_suspects", "surely_lied", "could_lie")},
    "liepapers": {"lie_paper": "town fears run tower", "quarrel_paper": "town fears run"},
    "liechecker": {"lets_lie": "town fears run tower thing", "lets_quarrel": "town fears run thing"},
    "reaching": {"reach": "town fears run one other", "reaches": "town fears run"},
    "settings": {"nearest": "town fears run", "best_setting": "town fears run",
                 "nearness_of": "town fears run setting"},
    "circles": {"worst_circle": "town fears run", "room_between": "town fears run one other"},
    "ringpapers": {"ring_paper": "town fears run"},
    "ringchecker": {"lets_ring": "town fears run thing"},
    "nearpapers": {"near_paper": "town fears run"},
    "nearchecker": {"lets_near": "town fears run thing"},
    "events": {"gap": "town fears run one other", "shown_at": "town fears run event tower",
               "surely_ahead": "town fears run early late", "could_be_ahead": "town fears run early late"},
    "surepairs": {"sure_pairs": "town fears run events", "circle_of": "town fears run events"},
    "claimpapers": {"claim_paper": "town fears run early late"},
    "claimchecker": {"lets_claim": "town fears run early late thing"},
    "parting": {name: "town fears" for name in ("three_lots", "two_lots", "is_bounded", "play_of", "bound_of")},
    "breaking": {"breaking_run": "town fears many"},
    "boundpapers": {"unbound_paper": "town fears"},
    "boundchecker": {"lets_unbound": "town fears thing"},
    "rates": {"lets_rates": "town thing"},
    "drifting": {
        "suspects_at": "town rates fears run", "reach_at": "town rates fears run hours one other",
        "reaches_at": "town rates fears run hours", "nearest_at": "town rates fears run hours",
        "setting_at": "town rates fears run hours", "nearness_at": "town rates fears run hours setting"},
    "waiting": {"last_hour": "town rates fears run first most"},
    "driftpapers": {"apart_paper": "town rates fears run hours"},
    "driftchecker": {"lets_apart": "town rates fears run hours thing"},
    "onemore": {
        "nearest_after": "town fears run letter", "hours_explained": "town fears run one other sent first last",
        "worth_between": "town fears run one other sent first last"},
    "houselogs": {"is_log": "thing"},
    "houseruns": {"house_through": "house events"},
    "replaying": {"replayed": "log"},
    "eventtexts": {"event_line": "event", "log_lines": "log"},
    "eventreadings": {"read_event": "line", "read_log": "lines"},
}
CLASSES = {
    ("towns", "Town"): {
        "__init__": "self towers *wires", "town_now": None, "towers_now": None, "wires_now": None,
        "__getitem__": 2, "__call__": "self first second", "__contains__": 2, "__len__": 1, "__iter__": 1,
        "__str__": 1, "__eq__": 2, "__add__": 2, "__sub__": 2, "__or__": 2, "without": "self tower",
        "called": "self *pairs", "of": "town", "read": "text",
    },
    ("waycourses", "Ways"): {
        "__init__": "self town run lot", "outside_now": None, "gains_now": None, "parts_now": None,
        "way_between": "self one other", "chain_between": "self one other", "__len__": 1, "__iter__": 1,
        "__contains__": 2, "__eq__": 2,
    },
    ("inquests", "Inquest"): {
        "__init__": "self town fears run", "town_now": None, "fears_now": None, "run_now": None,
        "suspects_now": None, "kernel_now": None, "lied_now": None, "could_now": None, "verdicts_now": None,
        "__getitem__": 2, "__contains__": 2, "__len__": 1, "__iter__": 1, "__eq__": 2, "__add__": 2, "__sub__": 2,
        "__or__": 2, "__xor__": 2, "telling": "self", "paper": "self tower",
    },
    ("setters", "Setter"): {
        "__init__": "self town fears run", "town_now": None, "fears_now": None, "run_now": None,
        "nearest_now": None, "setting_now": None, "reach_between": "self one other", "nearness_by": "self setting",
        "hour_set": "self tower hour", "with_letter": "self letter", "__contains__": 2, "__len__": 1, "__iter__": 1,
        "__eq__": 2,
    },
    ("annals", "Annals"): {
        "__init__": "self town fears run events", "town_now": None, "fears_now": None, "run_now": None,
        "events_now": None, "pairs_now": None, "circle_now": None, "__getitem__": 2, "__contains__": 2, "__len__": 1,
        "__iter__": 1, "__eq__": 2, "__call__": "self early late", "sure_before": "self index",
        "sure_after": "self index", "with_event": "self event", "with_letter": "self letter", "of": "town fears run",
    },
    ("fearings", "Fearing"): {
        "__init__": "self town *fears", "town_now": None, "fears_now": None, "bounded_now": None, "play_now": None,
        "bound_now": None, "__contains__": 2, "__iter__": 1, "__len__": 1, "__eq__": 2, "__str__": 1, "__add__": 2,
        "__sub__": 2, "given_up": "self", "joining": "self", "needed": "self",
    },
    ("watches", "Watch"): {
        "__init__": "self town rates fears run", "town_now": None, "rates_now": None, "fears_now": None,
        "run_now": None, "lots_now": None, "is_explained": "self", "__call__": "self hours", "set_for": "self hours",
        "reach_for": "self hours tower other", "last_for": "self first most", "paper_for": "self hours",
        "judged": "self hours thing", "__add__": 2, "__getitem__": 2, "__contains__": 2, "__len__": 1, "__iter__": 1,
        "__eq__": 2,
    },
    ("houses", "House"): {
        "__init__": "self town fears", "town_now": None, "fears_now": None, "heard_now": None, "run_now": None,
        "suspects_now": None, "sure_now": None, "nearest_now": None, "setting_now": None, "state": "self",
        "hear": "self letter", "lose": "self index", "apply": "self event", "barred": "self event",
        "tried": "self *events", "undo": "self", "do_all": "self *events keep", "tally": "self", "log": "self",
        "__contains__": 2, "__len__": 1, "__iter__": 1, "__eq__": 2,
    },
    ("trusty", "Trusty"): {
        "__init__": "self town fears", "hear": "self letter", "apply": "self event", "barred": "self event",
        "tried": "self *events", "do_all": "self *events keep",
    },
    ("desk", "Desk"): {"__init__": "self", "say": "self row", "counts": "self"},
}


def defined_in(module):
    """The functions and classes that the file of the module defines itself, by name."""
    with open(os.path.join(PLACE, module + ".py"), encoding="ascii") as file:
        rows = ast.parse(file.read()).body
    return {row.name: row for row in rows if isinstance(row, (ast.FunctionDef, ast.ClassDef))}


def parameters(call):
    """The parameters as words, a star before one that takes any number."""
    star = inspect.Parameter.VAR_POSITIONAL
    told = inspect.signature(call).parameters.values()
    return " ".join("*" * (one.kind == star) + one.name for one in told)


class Interface(unittest.TestCase):
    def test_functions(self):
        for module, names in FUNCTIONS.items():
            there = importlib.import_module("nearhours." + module)
            for name, told in names.items():
                self.assertIn(name, defined_in(module))
                self.assertEqual(parameters(getattr(there, name)), told, name)

    def test_classes(self):
        for (module, name), methods in CLASSES.items():
            made = getattr(importlib.import_module("nearhours." + module), name)
            body = {row.name for row in defined_in(module)[name].body if isinstance(row, ast.FunctionDef)}
            for method, told in methods.items():
                self.assertIn(method, body)
                if told is None:
                    self.assertIsInstance(vars(made)[method], property)
                elif isinstance(told, int):
                    self.assertEqual(len(parameters(getattr(made, method)).split(" ")), told)
                else:
                    self.assertEqual(parameters(getattr(made, method)), told)
        towns = importlib.import_module("nearhours.towns")
        for name in ("of", "read"):
            self.assertIsInstance(vars(towns.Town)[name], staticmethod)
        houses = importlib.import_module("nearhours.houses")
        self.assertIs(inspect.signature(houses.House.do_all).parameters["keep"].kind, inspect.Parameter.KEYWORD_ONLY)
        annals = importlib.import_module("nearhours.annals")
        self.assertIsInstance(vars(annals.Annals)["of"], classmethod)
