"""The interface: names, parameters, and where they are defined; and what [4] says of all classes."""

import importlib
import inspect
import unittest

from neverregret.errors import DeskError

INTERFACE = """
errors: DeskError() InvalidTable(at) InvalidText(line,at) InvalidStock(at) InvalidBounds(at) InvalidRow(at)
    InvalidPaper(at) InvalidNumber(word) Refused(word) Broken(word)
disk: Disk(cells) Disk.look(at) Disk.put(at,octet) Disk.flush() Disk.events() pending_places(events)
    cut_cells(cells,events,octets)
lexer: marks_of(text)
tables: Table(kinds,types) kind_names(table) type_names(table) kind_number(table,name) type_number(table,name)
    accepted(table,request) takers(table,kind) all_takers(table) types_without(table,kind)
    kinds_of_types(table,types) types_of_kinds(table,kinds) check_stock(table,value) check_bounds(table,value)
    check_row(table,value) without_types(table,types) without_kinds(table,kinds) joined_kinds(table)
    joined_types(table)
crossing: crossing_day(table,crossing) regretted_row(crossing,kind) turned_rows(crossing)
    crossing_bounds(table,crossing) crossing_attack(crossing) crossing_part(table,crossing)
days: is_day(table,returning,value) is_day_serving(table,stock,day,value) coming_places(day)
    there_behind(day,serving) row_there(day,serving) left_on_day(stock,day,serving)
forests: Forest(places,above,homes) places_of(table) way_up(forest,place) place_of_kind(forest,kind)
    upward_kinds(forest,request) types_below(forest,place) places_below(forest,place)
    table_of_forest(kinds,types,forest)
journal: Journal(disk) Journal.records() Journal.write(record) Journal.renew(records)
printer: show_table(table) show_stock(table,stock) show_bounds(table,bounds) show_row(table,row)
    show_log(table,row,serving)
remade: renamed_table(table,kinds,types) table_by_takers(kinds,types,lots) pieces(table) piece_table(table,piece)
    are_alike(table,one,other)
stocks: units_in(stock,kinds) unit_taken(stock,kind) unit_put(stock,kind) bounds_after(bounds,request)
    row_counts(table,row) stock_moved(places,stock) row_moved(places,row) bounds_moved(places,bounds)
takings: is_taking(table,stock,bounds,value) units_by_kind(table,taking) taken_units(taking)
    greatest_taking(table,stock,bounds,types) taking_row(taking)
court: Crossing(kinds,types) do_cross(table,one,other) crossing_pairs(table) crossings_of(table) is_forest(table)
    court(table) verdict_fault(table,value) is_verdict(table,value) check_verdict(table,value)
gaps: takers_among(table,types,kinds) lack_of(table,stock,bounds,types,kinds)
    greatest_lack(table,stock,bounds,types) worst_gap(table,stock,bounds,types)
    is_gap(table,stock,bounds,types,value)
houses: House(stock,bounds,guests) is_house(table,value) whole_stock(house) guest_row(house) guest_serving(house)
    is_deed(table,house,value) house_after(table,house,deed) house_after_all(table,house,deeds)
leastkinds: least_kinds(table,stock,request) wrong_row(table,stock,request,kind)
nowkinds: is_never_worse_now(table,returning,request,one,other) best_now(table,returning,left,request)
    worse_day(table,stock,returning,day,serving,request,one,other)
plain: is_serving(table,stock,row,value) left_stock(stock,serving) lefts_of(table,stock,row)
    row_within(table,bounds,row) sorted_rows(table,bounds,length) most_served(table,stock,row)
    servable(table,stock,row) regrets(table,stock,row,serving) kept_places(table,stock,row)
    serving_without(table,stock,row)
reader: read_table(text) read_stock(table,text) read_bounds(table,text) read_row(table,text) read_log(table,text)
    completed_table(text) completed_stock(table,text) completed_bounds(table,text) completed_row(table,text)
    completed_log(table,text)
stays: are_servable_stays(table,stock,day,places) day_regrets(table,stock,day,serving)
    day_lapses(table,stock,day,serving) kept_stays(table,stock,day) calm_serving(table,stock,day)
    places_with_moves(table,stock,day) most_behind(table,stock,day,begun)
upward: overflows(forest,stock,counts) spare_units(forest,stock,counts) refused_count(forest,stock,counts)
    dry_places(forest,stock,counts) dry_types(forest,stock,counts) room_for(forest,stock,counts,request)
    worst_refused(forest,stock,bounds) is_enough(forest,stock,bounds)
buying: purchases_in_turn(forest,stock,counts,prices) price_of_all(forest,stock,counts,prices)
    purchase_for(forest,stock,counts,prices,money) sales_in_turn(forest,stock,counts,prices)
commands: is_command(table,value) read_commands(table,text) show_command(table,command) show_commands(table,commands)
full: is_full(table,stock,bounds,value) full_row(table,stock,bounds,types) full_lots(table,stock,bounds)
    full_cores(table,stock,bounds) greatest_within(table,stock,bounds,types) greatest_full(table,stock,bounds,kind)
fullpapers: FullPaper(types,gap,taking) paper_rest(table,paper) full_paper(table,stock,bounds,types)
    is_full_paper(table,stock,bounds,value)
games: is_orders(table,value) all_orders(table) served_by_orders(table,stock,row,orders)
    never_plan(table,stock,bounds) some_rule(table,stock,bounds) is_never_plan(table,stock,bounds,value)
    is_attack(table,stock,bounds,value) served_by_plan(table,stock,row,plan) attack_row(table,stock,attack,orders)
keptupward: Upward(forest,stock,counts) Upward.come(request) Upward.leave(request) Upward.unit_comes(kind)
    Upward.unit_goes(kind) Upward.overflowing() Upward.refused() Upward.room(request)
live: LiveTable(table) LiveTable.kind_comes(name) LiveTable.kind_goes(name) LiveTable.type_comes(name,kinds)
    LiveTable.type_goes(name) LiveTable.accept(name,kind) LiveTable.strike(name,kind) LiveTable.crossing_names()
    LiveTable.pair_counts(one,other) LiveTable.verdict()
movesteps: move_order(stock,serving,remake) steps_between(serving,remake,order)
refusals: refusal_lot(table,stock,row,serving,place) is_refusal_lot(table,stock,row,serving,place,value)
    refusal_lots(table,stock,row,serving)
returns: Steps(lots) Split(kinds,types) line_of(table,stock,returning) is_line(table,stock,returning,value)
    kind_by_steps(steps,left,request) served_by_steps(stock,steps,day) follows_steps(stock,steps,day,serving)
rule: fewest_takers(table,stock,request) served_by_rule(table,stock,row) left_by_rule(table,stock,row)
servings: served_places(serving) way_from(table,stock,row,serving,place) is_way(table,stock,row,serving,value)
    turned_serving(serving,way) grown_serving(table,stock,row,serving) greatest_serving(table,stock,row)
    most_by_ways(table,stock,row) is_greatest_serving(table,stock,row,value)
striking: items_for(table,way) struck_table(table,way,items) is_repair(table,way,value)
    strike_cost(table,way,costs,items)
trials: first_worse_row(table,stock,bounds,one,other) never_worse(table,stock,bounds,one,other)
    never_worse_pairs(table,stock,bounds)
anyorder: row_orders(row) served_in_orders(table,stock,row) unlike_orders(table)
covers: cover_worth(table,stock,row,types) least_cover_with(table,stock,row,types) least_cover(table,stock,row)
    greatest_cover(table,stock,row) least_covers(table,stock,row) ServingPaper(serving,cover)
    serving_paper(table,stock,row) serving_paper_fault(table,stock,row,value) is_serving_paper(table,stock,row,value)
dayattacks: next_event(table,stock,line,day,serving) attacked_day(table,stock,line,orders)
exchanges: joined_serving(one,other) serving_with_both(table,stock,row,places,units)
kepttaking: KeptTaking(table,stock,bounds,types) KeptTaking.unit_comes(kind) KeptTaking.unit_goes(kind)
    KeptTaking.bound_rises(request) KeptTaking.bound_falls(request) KeptTaking.present_taking()
    KeptTaking.present_gap() KeptTaking.present_rest() KeptTaking.present_paper()
movers: types_to_move(table) are_enough(table,movable) fixed_crossing(table,movable)
    some_moving_rule(table,stock,bounds,movable)
moves: moved_places(one,other) is_remake(table,stock,row,serving,places,costs,value)
    remake_cost(serving,costs,remake) cheapest_remake(table,stock,row,serving,places,costs)
    remake_costs(table,stock,row,serving,places,costs)
pools: are_pools(table,stock) unlike_rules(table,stock)
repairs: RepairPaper(cost,lot,tree) cheapest_repair(table,way,costs) repair_paper(table,way,costs)
    is_repair_paper(table,way,costs,value)
safe: unit_kinds(stock) worse_kinds(table,stock,bounds,kind) is_safe(table,stock,bounds,one,other)
    safe_pairs(table,stock,bounds) safe_groups(table,stock,bounds) handing_order(table,stock,bounds)
blocking: does_block(table,stock,row,serving,places,costs,value)
    blocking_types(table,stock,row,serving,places,costs)
choices: kinds_at_hand(table,stock,request) best_kinds(table,stock,bounds,request)
    unbeaten_kinds(table,stock,bounds,request)
courses: next_serving(table,stock,row,serving,movable) course_by_rule(table,stock,row,movable)
    is_course(table,stock,row,movable,value) course_moves(course)
dearest: dearest_serving(table,stock,row,worths) DearestPaper(serving,covers) dearest_paper(table,stock,row,worths)
    is_dearest_paper(table,stock,row,worths,value)
fewestrows: types_within(table,kinds) fewest_requests(table,stock,bounds,one,other)
    least_regret_row(table,stock,bounds,one,other)
keptsafe: KeptSafe(table,stock,bounds) KeptSafe.present_worse(kind) KeptSafe.present_pairs()
    KeptSafe.request_refused(request) KeptSafe.request_served(request,kind) KeptSafe.unit_back(kind)
    KeptSafe.ruled_out(request,bound)
moveprices: unit_prices(table,stock,row,serving,costs) prices_worth(table,stock,row,serving,places,costs,prices)
    RemakePaper(remake,prices) remake_paper(table,stock,row,serving,places,costs)
    is_remake_paper(table,stock,row,serving,places,costs,value)
regretrows: tells_apart(table,stock,one,other,row) is_regret_row(table,stock,bounds,one,other,value)
    regret_row(table,stock,bounds,one,other)
safepapers: SafePaper(one,other,paper) WorsePaper(one,other,types,taking)
    comparison_paper(table,stock,bounds,one,other) is_safe_paper(table,stock,bounds,value)
    is_worse_paper(table,stock,bounds,value)
wanted: needed_kinds(table,stock,row) wanted_kinds(table,stock,row) needed_types(table,stock,row)
    welcome_types(table,stock,row) possible_pairs(table,stock,row) serving_with_pair(table,stock,row,place,kind)
answers: is_regret(table,house,request) answer(table,house,request) moving_answer(table,house,request)
    answer_paper(table,house,deed) is_answer_paper(table,house,deed,value)
bestdays: best_day(table,stock,bounds,row) is_best_day(table,stock,bounds,row,value)
choicepapers: ChoicePaper(request,kind,papers) NoChoicePaper(request,papers) choice_paper(table,stock,bounds,request)
    is_choice_paper(table,stock,bounds,value) is_no_choice_paper(table,stock,bounds,value)
falling: are_lesser(bounds,others) deciding_row(table,stock,bounds,kind) worse_by_row(table,stock,bounds,kind)
    turning_bound(table,stock,bounds,one,other,request) turning_units(table,stock,bounds,one,other,kind)
regretpapers: RegretPaper(one,other,row,serving,cover) FewestPaper(paper,papers) row_paper(table,stock,one,other,row)
    regret_paper(table,stock,bounds,one,other) is_regret_paper(table,stock,bounds,value)
    fewest_row_paper(table,stock,bounds,one,other) is_fewest_row_paper(table,stock,bounds,value)
desk: Desk(disk) Desk.do(deed) Desk.come(request) Desk.come_moving(request) Desk.deeds() Desk.begun() Desk.pack()
    start_desk(disk,table,stock,bounds)
runs: run_commands(table,stock,bounds,commands) run_with_papers(table,stock,bounds,commands)
    house_of_run(table,stock,bounds,results) show_result(table,result) run_script(table,stock,bounds,text)
claims: run_fault(table,stock,bounds,commands,answers) is_so(value) not_so(values)
"""


def listed():
    """Return all pairs of a module and what is listed for it, a name and its parameters."""
    found = []
    module = None
    for word in INTERFACE.split():
        if word.endswith(":"):
            module = importlib.import_module("neverregret." + word[:-1])
        else:
            name, _, parameters = word[:-1].partition("(")
            found.append((module, name, [part for part in parameters.split(",") if part]))
    return found


class InterfaceTest(unittest.TestCase):
    def test_names_and_parameters(self):
        for module, name, parameters in listed():
            owner, _, method = name.partition(".")
            thing = getattr(module, owner)
            self.assertEqual(module.__name__, thing.__module__, name)
            if method:
                self.assertIn(method, vars(thing), name)
                thing = vars(thing)[method]
                parameters = ["self"] + parameters
            elif inspect.isclass(thing) and thing is not DeskError:
                self.assertIn("__init__", vars(thing), name)
            if thing is not DeskError:
                signature = inspect.signature(thing)
                self.assertEqual(parameters, list(signature.parameters), name)
                for parameter in signature.parameters.values():
                    self.assertIs(parameter.kind, parameter.POSITIONAL_OR_KEYWORD, name)
                    self.assertIs(parameter.default, parameter.empty, name)

    def test_no_class_is_derived_from_another_one(self):
        for module, name, _ in listed():
            thing = getattr(module, name.partition(".")[0])
            if inspect.isclass(thing) and not issubclass(thing, DeskError):
                self.assertEqual((object,), thing.__bases__, name)


if __name__ == "__main__":
    unittest.main()
