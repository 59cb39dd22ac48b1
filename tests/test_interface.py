"""The interface of all stages: each name in its file, with its parameters, defined there."""

import importlib
import inspect
import unittest

FUNCTIONS = {
    "kinds": ("is_integer(thing)", "is_number(thing)", "is_quotient(thing)", "is_stretch(thing)", "is_lot(thing)",
              "is_asks(thing)", "is_queue(thing)"),
    "quotients": ("quotient_of(top, bottom)", "plus(one, other)", "minus(one, other)", "times(one, other)",
                  "less(one, other)"),
    "operations": ("is_operation(thing)", "is_value(operation, thing)", "commutes(operation)", "keeps_same(operation)",
                   "join_two(operation, one, other)", "idle_pair(operation)"),
    "folds": ("is_feed(operation, thing)", "fold(operation, feed)", "fold_of(operation, feed, stretch)",
              "joined_times(operation, value, many)"),
    "feeds": ("span_feed(size)", "count_feed(size)", "bit_feed(size)"),
    "opertexts": ("operation_line(operation)", "value_line(operation, value)", "read_operation(text)",
                  "read_value(operation, text)"),
    "askchecker": ("lets_asks(thing)",),
    "askrows": ("asks_of(*stretches)", "order_fault(asks)", "wide_asks(asks)", "covered(asks)", "clubs_of(asks)",
                "longest_end(asks)"),
    "askchanges": ("mirrored(asks, size)", "stretched(asks, counts)", "merged(asks, other)", "moved(asks, many)",
                   "kept_within(asks, low, high)", "without_ask(asks, at)"),
    "histories": ("lets_history(thing)", "is_history(thing)", "asks_by(history)", "history_by(queue)"),
    "steadies": ("steady_asks(width, hop, many)", "calendar_asks(widths)", "timed_asks(times, length, moments)"),
    "asktexts": ("asks_line(asks)", "history_line(history)", "read_asks(text)", "read_history(text)"),
    "plankinds": ("is_plan(thing)", "lets_plan(thing)"),
    "planvalues": ("spans_of(plan)", "lots_of(plan)", "counts_of(plan)"),
    "planruns": ("run_plan(plan, operation, feed)", "run_names(plan, operation, feed)"),
    "grades": ("suits(plan, asks)", "right_all(plan, asks)", "right_commuting(plan, asks)", "right_same(plan, asks)",
               "grade_of(plan, asks)", "right_idle(plan, asks, operation)"),
    "wrongs": ("wrong_at(plan, asks, grade)", "parting_of(plan, asks, grade)", "lets_parting(plan, asks, thing)"),
    "planchanges": ("used_joins(plan)", "trimmed(plan)", "tidied(plan)", "mirrored_plan(plan)",
                    "beside_plan(plan, other)"),
    "families": ("family_of(plan, asks)", "is_family(asks, thing)", "partners_of(family, element)",
                 "struck_family(family, element)", "fall_by(family, element)"),
    "wastes": ("repeats_of(plan)", "strays_of(plan, asks)"),
    "plantexts": ("plan_line(plan)", "read_plan(text)"),
    "strikekinds": ("is_strike(thing)", "is_stand(thing)"),
    "stands": ("stand_of(asks)", "can_strike(stand, strike)", "struck(stand, strike)", "after_strikes(stand, strikes)"),
    "gains": ("gain_of(stand, strike)", "labels_of(stand)", "unlabelled(stand)"),
    "strikechecker": ("lets_strikes(asks, thing)",),
    "walking": ("next_strike(stand)", "walk_of(queue)", "rules_of(queue)"),
    "leasts": ("least_of(queue)", "element_least(queue, element)", "ask_least(queue, at)"),
    "leastchanges": ("element_falls(queue)", "ask_falls(queue)", "worst_asks(queue)"),
    "bounds": ("club_sum(asks)", "wide_count(asks)", "club_many(asks)", "quick_bounds(queue)", "sum_by(asks, strikes)"),
    "excesses": ("fall_of(family, stand, strike)", "excess_rows(plan, queue)", "excess_of(plan, queue)"),
    "striketexts": ("strike_line(strike)", "paper_line(paper)", "read_strike(text)", "read_paper(text)"),
    "cutkinds": ("is_cuts(thing)", "lets_cuts(asks, thing)"),
    "making": ("cuts_by(queue)",),
    "turning": ("turning_cuts(queue)", "turning_count(queue)"),
    "cutplans": ("plan_by(cuts, asks)", "cuts_of(plan, asks)"),
    "brackets": ("bracket_line(cuts, stretch)", "depth_of(cuts, stretch)", "needed_cuts(cuts, asks)"),
    "moments": ("step_cuts(cuts, place)", "step_table(cuts, size)", "held_at(cuts, asks, place)"),
    "begins": ("asked_begins(asks, place)", "held_table(cuts, asks)"),
    "runners": ("resumed(cuts, asks, operation, state)",),
    "cutchanges": ("mirrored_cuts(cuts, size)", "moved_cuts(cuts, many)", "merged_cuts(cuts, other)",
                   "stretched_cuts(cuts, counts, asks)"),
    "cuttexts": ("cuts_line(cuts)", "read_cuts(text)"),
    "cuttingkinds": ("is_cutting(thing)", "lets_cutting(thing)"),
    "catalans": ("catalan(many)", "choose(many, few)"),
    "cutnumbers": ("cutting_count(corners)", "cutting_at(corners, number)", "number_of(cutting)"),
    "neighbours": ("neighbours_of(cutting, corner)", "triangles_of(cutting)", "thirds_of(cutting, one, other)"),
    "cornerprices": ("prices_of(cutting)", "chords_at(cutting, corner)", "cutting_by(prices)", "has_cutting(prices)"),
    "earpapers": ("ear_paper(cutting)", "lets_ears(prices, thing)"),
    "shapes": ("fan(corners, corner)", "zigzag(corners, corner)", "zigzag_back(corners, corner)",
               "turned_cutting(cutting, by)", "mirrored_cutting(cutting)"),
    "turns": ("least_turn(cutting)", "turn_order(cutting)", "turned_count(corners, by)"),
    "quiets": ("ears_of(cutting)", "can_quiet(corners, quiet)", "quiet_cutting(corners, quiet)", "worst_price(cutting)",
               "level_count(corners)", "level_cuttings(corners)"),
    "cheapest": ("cutting_cost(cutting, costs)", "least_cost(costs)", "cheapest_cutting(costs)"),
    "chordsums": ("first_chords(cutting, many)", "first_joins(cutting, many)", "answer_price(cutting, answer)",
                  "step_joins(cutting, step)", "least_first(width, many)", "over_least(cutting, many)",
                  "is_least_always(cutting)"),
    "cuttinglines": ("cutting_line(cutting)", "read_cutting(text)"),
    "programkinds": ("is_program(thing)", "lets_program(thing)"),
    "programruns": ("run_program(program, operation, feed)", "join_rows(program, many)", "joins_done(program, many)",
                    "begun_at(program, phase)"),
    "programtexts": ("program_line(program)", "read_program(text)"),
    "keepers": ("cutting_program(cutting)",),
    "readies": ("shifted_program(cutting)", "ready_program(cutting)", "least_phases(width)", "has_phases(width, phases)"),
    "hopkeepers": ("hop_program(width, hop, cutting)",),
    "means": ("blocks_of(width, hop)", "program_mean(program, hop)", "least_mean(width, hop)", "first_least(width, hop, many)",
              "hop_first(width, hop, many)", "ready_mean(width)", "ready_first(width, many)"),
    "ringlists": ("ring_reaches(width, size)", "ring_ways(width, size)", "lets_ring_cuts(width, size, thing)",
                  "ring_cuts(cutting, size)", "ring_run(cutting, operation, feed)"),
    "steadystores": ("steady_from(cutting, operation, state)",),
    "verdicts": ("round_of(program, hop)", "told_spans(program, many)", "right_forever(program, width, hop)",
                 "wrong_step(program, width, hop)", "wrong_told(program, width, hop)", "lets_wrong(program, width, hop, thing)"),
    "traces": ("trace_of(program, step)", "trace_depth(program, step)"),
    "uses": ("uses_of(program, width, hop)", "waste_of(program, width, hop)", "made_late(program, width, hop)"),
    "bests": ("mean_over(program, width, hop)", "is_best(program, width)", "cutting_of(program, width)"),
    "helds": ("alive_behind(program, width, hop, step)", "held_row(program, width, hop)", "held_need(width, hop, step)"),
    "delays": ("delays_of(program, width, hop)", "worst_delay(program, width, hop)", "rows_row(program)", "worst_rows(program)"),
    "unrolled": ("plan_of(program, width, hop, many)",),
    "overs": ("first_over(program, width, hop, many)", "over_parts(program, width, hop, many)"),
    "liveevents": ("is_key(thing)", "is_keeper(thing)", "is_event(thing)", "is_log(thing)"),
    "keystates": ("key_begun(keeper)", "key_full(keeper, state)", "key_put(keeper, state, operation, value)"),
    "freekeys": ("free_put(keeper, state, operation, value)", "free_drop(state)", "free_ask(state, operation)",
                 "free_width(state, width)"),
    "reasons": ("reason_of(operation, rows, event)",),
    "replaying": ("replayed(operation, log)", "cut_log(log, many)", "crashed_log(log, at)", "answers_by(operation, log)",
                  "joins_along(operation, log, key)"),
    "eventtexts": ("event_line(operation, event)", "log_text(operation, log)", "read_event(operation, text)",
                   "read_log(operation, text)", "desk_line(live, text)"),
}
CLASSES = {
    ("askclasses", "Asks"): ("__init__(self, *stretches)", "told(self)", "ordered(self)", "size(self)", "wide(self)",
                             "both(self, other)", "mirror(self, size)", "__eq__(self, other)", "__len__(self)"),
    ("planclasses", "Plan"): ("__init__(self, size, joins, answers)", "told(self)", "grade(self, asks)",
                              "on(self, operation, feed)", "tidy(self)", "beside(self, other)", "many(self)",
                              "__eq__(self, other)"),
    ("strikeclasses", "Strikes"): ("__init__(self, queue)", "told(self)", "least(self)", "paper(self)", "bounds(self)",
                                   "fall(self, element)", "over(self, plan)", "__eq__(self, other)"),
    ("runners", "Runner"): ("__init__(self, cuts, asks, operation)", "put(self, value)", "held(self)", "joins(self)",
                            "place(self)", "state(self)"),
    ("cutclasses", "Cuts"): ("__init__(self, queue)", "told(self)", "plan(self)", "many(self)", "held(self, place)",
                             "bracket(self, stretch)", "runner(self, operation)", "__eq__(self, other)"),
    ("cuttingclasses", "Cutting"): ("__init__(self, corners, *chords)", "told(self)", "prices(self)", "number(self)",
                                    "turn(self, by)", "mirror(self)", "worst(self)", "first(self, many)", "__eq__(self, other)"),
    ("steadystores", "Steady"): ("__init__(self, cutting, operation)", "put(self, value)", "held(self)", "joins(self)",
                                 "place(self)", "state(self)"),
    ("programclasses", "Program"): ("__init__(self, registers, *phases)", "told(self)", "run(self, operation, feed)",
                                    "mean(self, hop)", "rows(self, many)", "begun(self, phase)", "__eq__(self, other)"),
    ("judgeclasses", "Judge"): ("__init__(self, program, width, hop)", "right(self)", "wrong(self)", "mean(self)", "over(self)",
                                "best(self)", "cutting(self)", "plan(self, many)", "told(self)", "__eq__(self, other)"),
    ("houseasks", "HouseAsks"): ("__init__(self, operation)", "open_keys(self)", "keeper_of(self, key)", "state_of(self, key)",
                                 "held_by(self, key)", "joins_by(self, key)", "asked_by(self, key)", "least_by(self, key)",
                                 "over_by(self, key)", "bounds_by(self, key)", "report(self)"),
    ("house", "House"): ("__init__(self, operation)", "open_key(self, key, keeper)", "put(self, key, value)", "drop(self, key)",
                         "ask(self, key)", "set_width(self, key, width)", "close(self, key)", "crash(self)", "go(self, event)",
                         "barred(self, event)", "do_all(self, events, keep=False)", "undo(self, steps=1)", "tried(self, events)",
                         "log(self)", "__eq__(self, other)"),
}


class TestInterface(unittest.TestCase):
    def test_functions(self):
        for name, lines in FUNCTIONS.items():
            module = importlib.import_module(f"underthree.{name}")
            for line in lines:
                function = getattr(module, line.split("(")[0])
                self.assertTrue(inspect.isfunction(function), line)
                self.assertEqual(function.__module__, f"underthree.{name}", line)
                self.assertEqual(function.__name__ + str(inspect.signature(function)), line)

    def test_classes(self):
        for (name, word), lines in CLASSES.items():
            kind = getattr(importlib.import_module(f"underthree.{name}"), word)
            self.assertEqual(kind.__module__, f"underthree.{name}")
            for line in lines:
                # In the class itself, not in a base class only.
                method = vars(kind)[line.split("(")[0]]
                self.assertEqual(method.__name__ + str(inspect.signature(method)), line)

    def test_bases(self):
        house = importlib.import_module("underthree.house").House
        asks = importlib.import_module("underthree.houseasks").HouseAsks
        self.assertEqual(house.__bases__, (asks,))
        self.assertEqual(asks.__bases__, (object,))


if __name__ == "__main__":
    unittest.main()
