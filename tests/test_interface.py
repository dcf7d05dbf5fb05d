"""The interface: names, arguments, and in which file each thing is defined."""

import importlib
import inspect
import unittest

from tests.helpers import MODULES

LISTED = {
    "rows": "dot(one, other) plain(row) led(table, row) table_product(one, other) determinant(table)",
    "ratios": "ratio(above, below) ratio_sum(one, other) ratio_product(one, other) ratio_below(one, other)",
    "deals": "dealt(columns, goal) dam(columns, goal) is_deal(columns, goal, thing) is_dam(columns, goal, thing)",
    "leasts": "least_deal(columns, costs, goal) is_told_least(columns, costs, goal, thing)",
    "hulls": "mixture(rows, row) outer(rows, row) is_mixture(rows, row, thing) is_outer(rows, row, thing) corners(rows)",
    "kinds": "Kind(size, tables) plain_kind(size) mirror_kind(size) step_images(kind, step) is_wider(one, other)",
    "roses": "Rose(size, scale, rows) going(rose, step) leading(rose, step) adds_up(rose, steps) is_kept(kind, rose)",
    "ways": "blend(rose, scale, row) beyond(rose, scale, row) is_blend(rose, scale, row, thing) "
            "is_beyond(rose, scale, row, thing) never_slower(one, other) blends(one, other) slower_step(one, other) "
            "are_blends(one, other, thing) is_slower_step(one, other, thing)",
    "sums": "rose_sum(one, other) rose_greater(one, other) rose_times(rose, ratio) rose_led(rose, table) "
            "rose_kept(kind, rose) rose_round(kind, rose) unkept(kind, rose) is_unkept(kind, rose, thing)",
    "mixes": "mixed_going(one, other, step) best_split(one, other, step) best_row(one, other, step) "
             "are_mixed(one, other, step, told, split, common) mixed_rose(one, other)",
    "sectors": "rays(rose) sectors(rose) sector_of(rose, step) probes(rose)",
    "reaches": "idle_step(rose) spread(rose) is_idle_step(rose, thing) is_spread(rose, thing) reach(rose, time) "
               "rose_of_reach(scale, ends)",
    "rests": "rest(whole, part) rest_flaw(whole, part) is_rest_flaw(whole, part, thing)",
    "trips": "trip(size, pairs) is_trip(size, thing) total(rose, trip) end(size, trip) trip_sum(size, one, other) "
             "trip_times(size, trip, number) back(size, trip) trip_led(size, trip, table)",
    "shares": "images(kind, trip) shares(kind, one, other) is_shares(kind, one, other, thing)",
    "claims": "bar(kind, one, other) is_bar(kind, one, other, thing) never_longer(kind, one, other) folded(kind, trip) "
              "compared(kind, one, other)",
    "factors": "least_factor(kind, one, other) factor_shares(kind, one, other) factor_rose(kind, one, other)",
    "logs": "is_log(size, thing) log_from(rose, steps) keeps(rose, log) log_images(kind, log) "
            "is_way(kind, log, step, thing) way_time(kind, log, way) shortest_way(kind, log, step) shortcut(kind, log) "
            "is_shortcut(kind, log, thing) rose_for(kind, log)",
    "stretches": "greatest_time(kind, log, trip) roof(kind, log, trip) is_roof(kind, log, trip, ratio, thing) "
                 "climb(kind, log, trip) is_climb(kind, log, trip, thing) least_time(kind, log, trip) "
                 "floor(kind, log, trip) is_floor(kind, log, trip, ratio, thing) rose_at(kind, log, trip, ratio) "
                 "greatest_rose(kind, log) tightened(kind, log) sure_entries(kind, log)",
    "loosened": "loosened(size, log, slack) stretched(size, log, factor) least_slack(kind, log) slack_way(kind, log) "
                "least_stretch(kind, log) stretch_way(kind, log) clashes(kind, log) taken_back(kind, log)",
    "plane": "polygon(rose) edges(rose) double_area(rose) field(trip) field_area(trip) border(rose)",
    "sticks": "stick_sum(size, pairs) sticks(rose) stick_rows(size, steps) stick_bar(size, one, other)",
    "threes": "parts(rose) three_roses(steps) three_bar(one, other)",
    "fits": "closings(one, other) fit(one, other) is_fit(one, other, thing)",
    "space": "hlawka(size, x, y, z) hlawka_bar(x, y, z) two_parts(rose) is_two_parts(rose, thing)",
    "facts": "is_fact(size, thing) slack(rose, fact) satisfies(rose, facts) opposite(size, fact) "
             "combined(size, facts, weights) told_facts(size, trips, times) led_facts(kind, facts) averaged(kind, fact)",
    "quarrels": "agreed(kind, facts) quarrel(kind, facts) is_quarrel(kind, facts, thing)",
    "following": "follows(kind, facts, claim) derivation(kind, facts, claim) counter(kind, facts, claim) "
                 "is_derivation(kind, facts, claim, thing) is_counter(kind, facts, claim, thing)",
    "ranges": "greatest(kind, facts, one, other) reaching(kind, facts, one, other) endless(kind, facts, one, other) "
              "is_endless(kind, facts, one, other, thing) stretch(kind, facts, trip) answer(kind, facts, claim)",
    "grounds": "least_grounds(kind, facts, claim) least_quarrels(kind, facts) greatest_lots(kind, facts) "
               "needless(kind, facts) lean(kind, facts) bridge(kind, facts, lot, claim)",
    "settling": "settles(kind, facts, trips, claim) settling(kind, facts, trips, claim) "
                "parted(kind, facts, trips, claim) is_settling(kind, facts, trips, claim, thing) "
                "is_parted(kind, facts, trips, claim, thing)",
    "tries": "least_tries(kind, facts, trips, claim) stubborn(kind, facts, trips, claim) "
             "is_stubborn(kind, facts, trips, claim, thing)",
    "routes": "keep_up(kind, facts, ones, others) weights(kind, facts, ones, others) outrun(kind, facts, ones, others) "
              "is_weights(kind, facts, ones, others, thing) is_outrun(kind, facts, ones, others, thing)",
    "bests": "best_rose(kind, facts, routes, index) bests(kind, facts, routes) surely(kind, facts, routes) "
             "are_enough(kind, facts, routes, indexes) enough(kind, facts, routes)",
    "safest": "safest(kind, routes) mix_shares(kind, routes, mix, ratio) trial(kind, routes)",
    "walks": "Walk(size, rows) names(walk) walked(rose, walk, counts) parts(walk)",
    "walkclaims": "always(kind, facts, one, other) walk_papers(kind, facts, one, other) slower(kind, facts, one, other) "
                  "ahead(walk, number) when(kind, one, other) against(kind, one, other)",
    "walktexts": "walk_text(walk) read_walk(size, text)",
    "meeting": "cost(rose, party, spot) pulls(rose, party, spot) are_pulls(rose, party, spot, thing) "
               "cheaper(rose, party, spot) best_spot(rose, party)",
    "halving": "cost_rose(party, spot) spread_rose(party) never_worse(party, one, other) worse_row(party, one, other) "
               "halves(party, spot) better_place(party, spot) halving(party) fence(party) is_fence(party, thing)",
    "regrets": "regret(party, spot) regret_row(party, spot) least_regret(party) calm_spot(party) calm_papers(party) "
               "are_calm(party, ratio, spot, papers)",
    "fronts": "holds(party, spot) stops(party, spot) are_stops(party, spot, thing) lean(party, spot)",
    "winds": "Wind(rose, scale, row) wind_going(wind, step) wind_total(wind, trip) drift(wind, step) blown(wind) "
             "wind_of(rose) lopsided(rose) is_lopsided(rose, thing)",
    "rounds": "one_more(size, one, other) windy_shares(size, one, other) windy_bar(size, one, other) "
              "is_windy_shares(size, one, other, thing) is_windy_bar(size, one, other, thing) "
              "compared_windy(size, one, other)",
    "drifts": "wind_for(size, log) windy_quarrel(size, log) is_windy_quarrel(size, log, thing) "
              "least_gap(size, log, one, other) windy_floor(size, log, one, other) "
              "is_windy_floor(size, log, one, other, ratio, thing) wind_at(size, log, one, other, ratio) "
              "drift_stretch(size, log, step)",
    "nets": "Net(size, places, ties) paths(net, first, last) path_trip(net, path) quickest(net, rose, first) "
            "quick_paths(net, rose, first) are_quickest(net, rose, first, times, by_paths) with_tie(net, tie) "
            "without_tie(net, tie)",
    "flows": "is_flow(net, first, last, thing) flow_trip(net, first, last, flow) "
             "net_shares(kind, net, first, last, trip) net_bar(kind, net, first, last, trip) "
             "is_net_shares(kind, net, first, last, trip, thing) is_net_bar(kind, net, first, last, trip, thing) "
             "surely_within(kind, net, first, last, trip)",
    "straights": "straight_path(net, first, last) bending_rose(kind, net, first, last) needless(net) trimmed(net) "
                 "follows(one, other) follow_paths(one, other) follow_bar(kind, one, other)",
    "detours": "detour(kind, net, first, last) detour_shares(kind, net, first, last) "
               "detour_rose(kind, net, first, last) are_detour(kind, net, first, last, told, shares, rose) "
               "net_detour(kind, one, other) worst_tie(kind, one, other) full_net(size, places)",
    "moreties": "helps(kind, net, first, last, tie) helping(kind, net, first, last, tie) "
                "helpless(kind, net, first, last, tie) is_helping(kind, net, first, last, tie, thing) "
                "are_helpless(kind, net, first, last, tie, thing)",
    "atlas": "Atlas(kind)",
    "deskwords": "errand_text(errand) read_errand(text) deed_text(deed) read_deed(line)",
    "desk": "Desk(atlas)",
    "atlastexts": "atlas_text(atlas) read_atlas(text)",
}


class InterfaceTest(unittest.TestCase):
    def test_modules(self):
        self.assertEqual(MODULES, ["errors", *LISTED])

    def test_names_and_arguments(self):
        for module, listed in LISTED.items():
            held = importlib.import_module(f"pacerose.{module}")
            for entry in listed.replace(", ", ",").split():
                name, _, told = entry.rstrip(")").partition("(")
                thing = getattr(held, name)
                self.assertEqual(thing.__module__, held.__name__)
                taken = inspect.signature(thing).parameters
                self.assertEqual(list(taken), told.split(","), entry)
                self.assertTrue(all(part.default is part.empty for part in taken.values()))

    def test_methods_of_classes(self):
        kinds, roses = importlib.import_module("pacerose.kinds"), importlib.import_module("pacerose.roses")
        self.assertLessEqual({"__init__", "__eq__", "__len__"}, set(vars(kinds.Kind)))
        self.assertLessEqual({"__init__", "__eq__"}, set(vars(roses.Rose)))
        self.assertEqual(list(vars(kinds.plain_kind(1))), ["size", "tables"])
        self.assertEqual(list(vars(roses.Rose(1, 1, []))), ["size", "scale", "rows"])

    def test_methods_of_atlases(self):
        held = importlib.import_module("pacerose.atlas").Atlas
        listed = ("place(word, step) move(word, step) drop(word) told(errand, low, high) fact(one, other, extra) "
                  "forget(at) ask(name, one, other, extra) close(name) attempt(deeds) undo() redo() log() places() "
                  "entries() questions() facts() answer(name) stretch(errand) grounds(name) sides(name) worth(name) "
                  "changed() __len__() __eq__(other)")
        for entry in listed.replace(", ", ",").split():
            name, _, told = entry.rstrip(")").partition("(")
            self.assertEqual(list(inspect.signature(vars(held)[name]).parameters), ["self", *[part for part in told.split(",") if part]])
        self.assertEqual(held(importlib.import_module("pacerose.kinds").plain_kind(2)).kind.size, 2)
        said = vars(importlib.import_module("pacerose.desk").Desk)["say"]
        self.assertEqual(list(inspect.signature(said).parameters), ["self", "line"])
        for module, name in [("walks", "Walk"), ("winds", "Wind"), ("nets", "Net")]:
            self.assertLessEqual({"__init__", "__eq__"}, set(vars(getattr(importlib.import_module(f"pacerose.{module}"), name))))
        importlib.import_module("pacerose.atlasdeeds")

    def test_package_defines_nothing(self):
        package = importlib.import_module("pacerose")
        self.assertEqual([name for name in vars(package) if not name.startswith("__") and not inspect.ismodule(
            getattr(package, name))], [])


if __name__ == "__main__":
    unittest.main()
