"""The interface: names, parameters, and where they are defined; and what [4] says of all classes."""

import importlib
import inspect
import unittest

from neverregret.errors import DeskError

INTERFACE = """
errors: DeskError() InvalidTable(at) InvalidText(line,at) InvalidStock(at) InvalidBounds(at) InvalidRow(at)
    InvalidPaper(at) InvalidNumber(word) Refused(word) Broken(word)
disk: Disk(cells) Disk.look(at) Disk.put(at,octet) Disk.flush() Disk.events() pending_places(events)
    cut_cells(cells,events,octets)
lexer: marks_of(text)
tables: Table(kinds,types) kind_names(table) type_names(table) kind_number(table,name) type_number(table,name)
    accepted(table,request) takers(table,kind) all_takers(table) types_without(table,kind)
    kinds_of_types(table,types) types_of_kinds(table,kinds) check_stock(table,value) check_bounds(table,value)
    check_row(table,value) without_types(table,types) without_kinds(table,kinds) joined_kinds(table)
    joined_types(table)
crossing: crossing_day(table,crossing) regretted_row(crossing,kind) turned_rows(crossing)
    crossing_bounds(table,crossing) crossing_attack(crossing) crossing_part(table,crossing)
days: is_day(table,returning,value) is_day_serving(table,stock,day,value) coming_places(day)
    there_behind(day,serving) row_there(day,serving) left_on_day(stock,day,serving)
forests: Forest(places,above,homes) places_of(table) way_up(forest,place) place_of_kind(forest,kind)
    upward_kinds(forest,request) types_below(forest,place) places_below(forest,place)
    table_of_forest(kinds,types,forest)
journal: Journal(disk) Journal.records() Journal.write(record) Journal.renew(records)
printer: show_table(table) show_stock(table,stock) show_bounds(table,bounds) show_row(table,row)
    show_log(table,row,serving)
remade: renamed_table(table,kinds,types) table_by_takers(kinds,types,lots) pieces(table) piece_table(table,piece)
    are_alike(table,one,other)
stocks: units_in(stock,kinds) unit_taken(stock,kind) unit_put(stock,kind) bounds_after(bounds,request)
    row_counts(table,row) stock_moved(places,stock) row_moved(places,row) bounds_moved(places,bounds)
takings: is_taking(table,stock,bounds,value) units_by_kind(table,taking) taken_units(taking)
    greatest_taking(table,stock,bounds,types) taking_row(taking)
court: Crossing(kinds,types) do_cross(table,one,other) crossing_pairs(table) crossings_of(table) is_forest(table)
    court(table) verdict_fault(table,value) is_verdict(table,value) check_verdict(table,value)
gaps: takers_among(table,types,kinds) lack_of(table,stock,bounds,types,kinds)
    greatest_lack(table,stock,bounds,types) worst_gap(table,stock,bounds,types)
    is_gap(table,stock,bounds,types,value)
houses: House(stock,bounds,guests) is_house(table,value) whole_stock(house) guest_row(house) guest_serving(house)
    is_deed(table,house,value) house_after(table,house,deed) house_after_all(table,house,deeds)
leastkinds: least_kinds(table,stock,request) wrong_row(table,stock,request,kind)
nowkinds: is_never_worse_now(table,returning,request,one,other) best_now(table,returning,left,request)
    worse_day(table,stock,returning,day,serving,request,one,other)
plain: is_serving(table,stock,row,value) left_stock(stock,serving) lefts_of(table,stock,row)
    row_within(table,bounds,row) sorted_rows(table,bounds,length) most_served(table,stock,row)
    servable(table,stock,row) regrets(table,stock,row,serving) kept_places(table,stock,row)
    serving_without(table,stock,row)
reader: read_table(text) read_stock(table,text) read_bounds(table,text) read_row(table,text) read_log(table,text)
    completed_table(text) completed_stock(table,text) completed_bounds(table,text) completed_row(table,text)
    completed_log(table,text)
stays: are_servable_stays(table,stock,day,places) day_regrets(table,stock,day,serving)
    day_lapses(table,stock,day,serving) kept_stays(table,stock,day) calm_serving(table,stock,day)
    places_with_moves(table,stock,day) most_behind(table,stock,day,begun)
upward: overflows(forest,stock,counts) spare_units(forest,stock,counts) refused_count(forest,stock,counts)
    dry_places(forest,stock,counts) dry_types(forest,stock,counts) room_for(forest,stock,counts,request)
    worst_refused(forest,stock,bounds) is_enough(forest,stock,bounds)
"""


def listed():
    """Return all pairs of a module and what is listed for it, a name and its parameters."""
    found = []
    module = None
    for word in INTERFACE.split():
        if word.endswith(":"):
            module = importlib.import_module("neverregret." + word[:-1])
        else:
            name, _, parameters = word[:-1].partition("(")
            found.append((module, name, [part for part in parameters.split(",") if part]))
    return found


class InterfaceTest(unittest.TestCase):
    def test_names_and_parameters(self):
        for module, name, parameters in listed():
            owner, _, method = name.partition(".")
            thing = getattr(module, owner)
            self.assertEqual(module.__name__, thing.__module__, name)
            if method:
                self.assertIn(method, vars(thing), name)
                thing = vars(thing)[method]
                parameters = ["self"] + parameters
            elif inspect.isclass(thing) and thing is not DeskError:
                self.assertIn("__init__", vars(thing), name)
            if thing is not DeskError:
                signature = inspect.signature(thing)
                self.assertEqual(parameters, list(signature.parameters), name)
                for parameter in signature.parameters.values():
                    self.assertIs(parameter.kind, parameter.POSITIONAL_OR_KEYWORD, name)
                    self.assertIs(parameter.default, parameter.empty, name)

    def test_no_class_is_derived_from_another_one(self):
        for module, name, _ in listed():
            thing = getattr(module, name.partition(".")[0])
            if inspect.isclass(thing) and not issubclass(thing, DeskError):
                self.assertEqual((object,), thing.__bases__, name)


if __name__ == "__main__":
    unittest.main()
