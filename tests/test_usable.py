"""Point [10]: NotUsable for each parameter, and for the first of several that are not usable."""

import copy
import itertools

from nearhours.annals import Annals
from nearhours.boundchecker import lets_unbound
from nearhours.boundpapers import unbound_paper
from nearhours.breaking import breaking_run
from nearhours.circles import room_between, worst_circle
from nearhours.claimchecker import lets_claim
from nearhours.claimpapers import claim_paper
from nearhours.clashes import clash
from nearhours.desk import Desk
from nearhours.driftchecker import lets_apart
from nearhours.drifting import nearest_at, nearness_at, reach_at, reaches_at, setting_at, suspects_at
from nearhours.driftpapers import apart_paper
from nearhours.eventreadings import read_event, read_log
from nearhours.events import could_be_ahead, gap, shown_at, surely_ahead
from nearhours.explainchecker import lets_explained
from nearhours.explaining import explain_paper
from nearhours.fearchecker import lets_fears
from nearhours.fearings import Fearing
from nearhours.fears import feared_lots, greatest_fears, is_feared
from nearhours.houselogs import is_log
from nearhours.houses import House
from nearhours.inquests import Inquest
from nearhours.liechecker import lets_lie, lets_quarrel
from nearhours.liepapers import lie_paper, quarrel_paper
from nearhours.nearchecker import lets_near
from nearhours.nearpapers import near_paper
from nearhours.onemore import nearest_after
from nearhours.parting import bound_of, is_bounded, play_of, three_lots, two_lots
from nearhours.rates import lets_rates
from nearhours.reaching import reach, reaches
from nearhours.ringchecker import lets_ring
from nearhours.ringpapers import ring_paper
from nearhours.runchecker import lets_run
from nearhours.runs import is_full, letters_of, moved_run, true_run
from nearhours.setters import Setter
from nearhours.settings import best_setting, nearest, nearness_of
from nearhours.surepairs import circle_of, sure_pairs
from nearhours.suspects import could_lie, kernel_suspects, least_suspects, surely_lied, suspects
from nearhours.ties import ties_of
from nearhours.townchecker import lets_town
from nearhours.townparts import neighbors, widest, wire_of
from nearhours.townreadings import run_read
from nearhours.towns import Town
from nearhours.towntexts import run_text, town_text
from nearhours.watches import Watch
from nearhours.waycourses import Ways
from nearhours.ways import chain_of, way
from nearhours.worlds import do_fit, does_explain, some_gains
from tests.support import EACH, ODD, ODDITIES, RING, Case

# For each parameter a value that is usable, and some that are not whatever the others are.
RIGHT = {
    "town": RING, "run": ODD, "lot": ("b",), "one": "a", "other": "c", "tower": "a", "fears": EACH,
    "gains": (0, 5), "lates": (0, 0, 0), "thing": (), "text": "-", "setting": ((0, 1), (1, 2), (-3, 1)),
    "event": ("b", 0), "early": ("a", 0), "late": ("c", 4), "events": (("a", 0), ("b", 2)), "many": 1,
    "rates": ((0, 0), (-10, 10), (5, 5)), "hours": (0, 1, -7), "letter": ODD[0],
}
WRONG = {
    "town": ODDITIES + (RING[:1], (RING[0], RING[1][::-1]), list(RING), (("a",), (("a", "b", 0, 2),))),
    "run": (None, True, "", [], list(ODD), (None,), (("a", "b", 0),), (("a", "z", 0, 1),), (("a", "a", 0, 1),),
            (("a", "b", 0, True),), ODD + (["a", "b", 0, 1],)),
    "lot": (None, True, 0, "a", "", [], ["a"], ("z",), ("b", "a"), ("a", "a"), (1,), (True,)),
    "one": (None, True, 0, 1, "", "z", ("a",), ["a"], "ab"),
    "other": (None, True, 0, 1, "", "z", ("b",), ["c"], "a"),
    "tower": (None, True, 0, 1, "", "z", ("a",), ["a"], "ab"),
    "fears": (None, True, "", (), [], [()], (("b",), ("a",)), (("z",),), (("b", "a"),), ("a",)),
    "gains": (None, True, (), (0,), [0, 5], [0, 0, 0], (0, True), (0, 0, None), (0, 0, 0, 0)),
    "lates": (None, True, (), (0, 0), [0, 0, 0], (0, 0, True), (0, 0, 3), (0, 0, -1), (0, 0, 0, 0)),
    "text": (None, True, 0, (), ["-"]),
    "setting": (None, True, (), ((0, 1),), [(0, 1)] * 3, ((0, 1), (0, 1), (2, 2)), ((0, 1), (0, 1), (0, True)),
                ((0, 1),) * 4),
    "event": (None, True, "a", (), ("a",), ("z", 0), ("a", True), ["a", 0], ("a", 0, 0)),
    "early": (None, True, "a", (), ("a",), ("z", 0), ("a", True), ["a", 0], ("a", 0, 0)),
    "late": (None, True, "a", (), ("a",), ("z", 0), ("a", True), ["a", 0], ("a", 0, 0)),
    "events": (None, True, "", 0, [], [("a", 0)]),
    "many": (0, -1, True, False, None, "", "1", (), [1], (1,)),
    "rates": (None, True, (), ((0, 0),) * 2, [(0, 0)] * 3, ((0, 0), (0, 0), (1, 0)), ((0, 0), (0, 0), (0, 1000)),
              ((0, 0), (0, True), (0, 0)), ((0, 0),) * 4),
    "hours": (None, True, (), (0, 0), [0, 0, 0], (0, 0, True), (0, 0, None), (0, 0, 0, 0)),
    "letter": (None, True, (), ("a", "b", 0), ["a", "b", 0, 1], ("a", "b", 0, True), ("a", "z", 0, 1),
               ("a", "a", 0, 1), ODD),
}
AT = ("one", "other", "tower", "many")

CALLS = (
    (wire_of, "town one other"), (neighbors, "town tower"), (widest, "town"), (lets_run, "town"),
    (true_run, "town gains lates"), (is_full, "town run"), (letters_of, "town run lot"),
    (moved_run, "town run gains"), (town_text, "town"), (run_read, "town text"), (ties_of, "town run lot"),
    (way, "town run lot one other"), (chain_of, "town run lot one other"), (some_gains, "town run lot"),
    (do_fit, "town run lot gains"), (does_explain, "town run lot"), (clash, "town run lot"),
    (explain_paper, "town run lot"), (lets_explained, "town run lot"), (Ways, "town run lot"),
    (lets_fears, "town"), (is_feared, "town fears lot"), (feared_lots, "town fears"),
    (greatest_fears, "town fears"), (suspects, "town fears run"), (least_suspects, "town fears run"),
    (kernel_suspects, "town fears run"), (surely_lied, "town fears run"), (could_lie, "town fears run"),
    (lie_paper, "town fears run tower"), (quarrel_paper, "town fears run"), (lets_lie, "town fears run tower"),
    (lets_quarrel, "town fears run"), (Inquest, "town fears run"), (three_lots, "town fears"),
    (two_lots, "town fears"), (is_bounded, "town fears"), (play_of, "town fears"), (bound_of, "town fears"),
    (breaking_run, "town fears many"), (unbound_paper, "town fears"), (lets_unbound, "town fears"),
    (lets_rates, "town"), (suspects_at, "town rates fears run"), (lets_apart, "town rates fears run hours"),
    (Watch, "town rates fears run"), (House, "town fears"),
)
# Of these the run is to be one that some feared lot explains.
EXPLAINED = (
    (reach, "town fears run one other"), (reaches, "town fears run"), (nearest, "town fears run"),
    (best_setting, "town fears run"), (nearness_of, "town fears run setting"), (worst_circle, "town fears run"),
    (room_between, "town fears run one other"), (ring_paper, "town fears run"), (lets_ring, "town fears run"),
    (near_paper, "town fears run"), (lets_near, "town fears run"), (Setter, "town fears run"),
    (gap, "town fears run one other"), (shown_at, "town fears run event tower"),
    (surely_ahead, "town fears run early late"), (could_be_ahead, "town fears run early late"),
    (sure_pairs, "town fears run events"), (circle_of, "town fears run events"),
    (claim_paper, "town fears run early late"), (lets_claim, "town fears run early late"),
    (Annals, "town fears run events"), (Annals.of, "town fears run"), (nearest_after, "town fears run letter"),
    (reach_at, "town rates fears run hours one other"), (reaches_at, "town rates fears run hours"),
    (nearest_at, "town rates fears run hours"), (setting_at, "town rates fears run hours"),
    (nearness_at, "town rates fears run hours setting"), (apart_paper, "town rates fears run hours"),
)
CALLS = CALLS + EXPLAINED
CHECKERS = (lets_run, lets_explained, lets_fears, lets_lie, lets_quarrel, lets_ring, lets_near, lets_claim,
            lets_unbound, lets_rates, lets_apart)


def right_for(call, names):
    """Usable arguments by name, in the order of the parameters."""
    told = {name: RIGHT[name] for name in names}
    if call in (true_run, moved_run):
        told["gains"] = (1, 2, 3)
    if call in CHECKERS:
        told["thing"] = None
    return told


class Usable(Case):
    def at_of(self, name, value):
        return value if name in AT else -1

    def test_each_parameter(self):
        for call, text in CALLS:
            names = text.split(" ")
            for name in names:
                for value in WRONG[name]:
                    told = {**right_for(call, names), name: value}
                    at = self.at_of(name, value)
                    self.not_usable(name, at, call, *told.values())
                    self.not_usable(name, at, call, **told)
                    if name in AT:
                        self.assertIs(self.refusal(call, **told)[1]["at"], value)

    def test_the_first_of_two(self):
        for call, text in CALLS:
            names = text.split(" ")
            for first, second in itertools.combinations(names, 2):
                for value, later in itertools.product(WRONG[first][:4], WRONG[second][:4]):
                    told = {**right_for(call, names), first: value, second: later}
                    self.not_usable(first, self.at_of(first, value), call, **told)

    def test_usable_ones_are_taken(self):
        for call, text in CALLS:
            if call not in CHECKERS:
                told = right_for(call, text.split(" "))
                found = call(**told)
                self.assertTrue(found == call(*told.values()))
                self.assertIs(type(found), type(call(**told)))

    def test_arguments_stay_as_they_are(self):
        for call, text in CALLS:
            names = text.split(" ")
            for name in names:
                value = [[list(RING)], ["a", ["b"]], []]
                told = {**right_for(call, names), name: value}
                before = copy.deepcopy(told)
                self.not_usable(name, self.at_of(name, value), call, **told)
                self.assertEqual(told, before)

    def test_what_checkers_are_handed_stays_as_it_is(self):
        things = ([["a", "b"], []], (["a"], []), (("a",), [[]]), ("ring", [[0, "b"]]), ("gains", ([1], 2, 3)))
        for thing in things + (([0, "b"],), (["a", "b", 0, 1],)):
            before = copy.deepcopy(thing)
            self.refusal(lets_town, thing)
            self.refusal(lets_run, RING, thing)
            self.refusal(lets_explained, RING, ODD, (), thing)
            self.refusal(lets_fears, RING, thing)
            for checker in (lets_quarrel, lets_ring, lets_near):
                self.refusal(checker, RING, EACH, ODD, thing)
            self.refusal(lets_unbound, RING, EACH, thing)
            self.refusal(lets_rates, RING, thing)
            self.refusal(lets_apart, RING, RIGHT["rates"], EACH, ODD, (0, 0, 0), thing)
            self.refusal(Fearing, RING, thing)
            self.refusal(House(RING, EACH).apply, thing)
            self.refusal(Desk().say, thing)
            self.refusal(read_event, thing)
            self.refusal(read_log, thing)
            self.assertFalse(is_log(thing) or thing in House(RING, EACH) or thing in Fearing(RING, ("a",)))
            self.refusal(lets_lie, RING, EACH, ODD, "a", thing)
            self.refusal(lets_claim, RING, EACH, ODD, ("a", 0), ("b", 0), thing)
            self.refusal(Town, thing)
            self.refusal(Town, ("a", "b"), thing)
            self.refusal(Town, RING[0], *thing)
            self.refusal(run_text, thing)
            self.assertFalse(thing in Town.of(RING) or thing in Ways(RING, (), ()))
            self.assertEqual(thing, before)

    def test_a_tower_of_the_lot(self):
        for call in (way, chain_of):
            self.not_usable("one", "b", call, RING, ODD, ("b",), "b", "z")
            self.not_usable("one", "b", call, RING, ODD, ("b",), "b", "b")
            self.not_usable("other", "b", call, RING, ODD, ("b",), "a", "b")
            self.not_usable("other", "a", call, RING, ODD, ("b",), "a", "a")

    def test_a_lot_that_does_not_explain_comes_last(self):
        for call in (way, chain_of):
            self.not_usable("lot", -1, call, RING, ODD, (), "a", "b")
            self.not_usable("one", "z", call, RING, ODD, (), "z", "z")
            self.not_usable("other", "z", call, RING, ODD, (), "a", "z")
            self.not_usable("other", "a", call, RING, ODD, (), "a", "a")
            self.not_usable("lot", -1, call, RING, ODD, ("z",), "z", "z")
            self.not_usable("run", -1, call, RING, None, None, "z", "z")
        self.not_usable("lot", -1, Ways, RING, ODD, ())
        self.not_usable("lot", -1, Ways, town=RING, run=ODD, lot=("b", "a"))

    def test_a_run_that_nobody_explains_comes_last(self):
        for call, text in EXPLAINED:
            names = text.split(" ")
            told = {**right_for(call, names), "fears": ((),)}
            self.not_usable("run", -1, call, **told)
            self.not_usable("run", -1, call, *told.values())
            for name in names:
                for value in WRONG[name]:
                    self.not_usable(name, self.at_of(name, value), call, **{**told, name: value})

    def test_papers_are_looked_at_behind_a_run(self):
        for call, text in EXPLAINED:
            if call in CHECKERS:
                told = {**right_for(call, text.split(" ")), "fears": ((),)}
                for thing in ("", ("circle", ()), ("near", (), ()), ("sure", ()), ["sure"]):
                    self.not_usable("run", -1, call, **{**told, "thing": thing})

    def test_where_no_lot_need_explain(self):
        self.same(suspects(RING, ((),), ODD), ())
        self.same(lets_quarrel(RING, ((),), ODD, quarrel_paper(RING, ((),), ODD)), 1)
        self.same(lie_paper(RING, ((),), ODD, "a")[0], "sure")
        self.same(len(Inquest(RING, ((),), ODD)), 0)

    def test_where_it_need_not_explain(self):
        self.assertEqual(len(ties_of(RING, ODD, ())), 6)
        self.assertIs(does_explain(RING, ODD, ()), False)
        self.assertIs(do_fit(RING, ODD, (), (0, 0, 0)), False)
        self.assertIsNone(some_gains(RING, ODD, ()))
