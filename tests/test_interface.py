"""The interface: names, parameters, and where they are defined; and what [4] says of all classes."""

import importlib
import inspect
import unittest

from neverregret.errors import DeskError

INTERFACE = """
errors: DeskError() InvalidTable(at) InvalidText(line,at) InvalidStock(at) InvalidBounds(at) InvalidRow(at)
    InvalidPaper(at) InvalidNumber(word) Refused(word) Broken(word)
disk: Disk(cells) Disk.look(at) Disk.put(at,octet) Disk.flush() Disk.events() pending_places(events)
    cut_cells(cells,events,octets)
lexer: marks_of(text)
tables: Table(kinds,types) kind_names(table) type_names(table) kind_number(table,name) type_number(table,name)
    accepted(table,request) takers(table,kind) all_takers(table) types_without(table,kind)
    kinds_of_types(table,types) types_of_kinds(table,kinds) check_stock(table,value) check_bounds(table,value)
    check_row(table,value) without_types(table,types) without_kinds(table,kinds) joined_kinds(table)
    joined_types(table)
crossing: crossing_day(table,crossing) regretted_row(crossing,kind) turned_rows(crossing)
    crossing_bounds(table,crossing) crossing_attack(crossing) crossing_part(table,crossing)
days: is_day(table,returning,value) is_day_serving(table,stock,day,value) coming_places(day)
    there_behind(day,serving) row_there(day,serving) left_on_day(stock,day,serving)
forests: Forest(places,above,homes) places_of(table) way_up(forest,place) place_of_kind(forest,kind)
    upward_kinds(forest,request) types_below(forest,place) places_below(forest,place)
    table_of_forest(kinds,types,forest)
journal: Journal(disk) Journal.records() Journal.write(record) Journal.renew(records)
printer: show_table(table) show_stock(table,stock) show_bounds(table,bounds) show_row(table,row)
    show_log(table,row,serving)
remade: renamed_table(table,kinds,types) table_by_takers(kinds,types,lots) pieces(table) piece_table(table,piece)
    are_alike(table,one,other)
"""


def listed():
    """Return all pairs of a module and what is listed for it, a name and its parameters."""
    found = []
    module = None
    for word in INTERFACE.split():
        if word.endswith(":"):
            module = importlib.import_module("neverregret." + word[:-1])
        else:
            name, _, parameters = word[:-1].partition("(")
            found.append((module, name, [part for part in parameters.split(",") if part]))
    return found


class InterfaceTest(unittest.TestCase):
    def test_names_and_parameters(self):
        for module, name, parameters in listed():
            owner, _, method = name.partition(".")
            thing = getattr(module, owner)
            self.assertEqual(module.__name__, thing.__module__, name)
            if method:
                self.assertIn(method, vars(thing), name)
                thing = vars(thing)[method]
                parameters = ["self"] + parameters
            elif inspect.isclass(thing) and thing is not DeskError:
                self.assertIn("__init__", vars(thing), name)
            if thing is not DeskError:
                signature = inspect.signature(thing)
                self.assertEqual(parameters, list(signature.parameters), name)
                for parameter in signature.parameters.values():
                    self.assertIs(parameter.kind, parameter.POSITIONAL_OR_KEYWORD, name)
                    self.assertIs(parameter.default, parameter.empty, name)

    def test_no_class_is_derived_from_another_one(self):
        for module, name, _ in listed():
            thing = getattr(module, name.partition(".")[0])
            if inspect.isclass(thing) and not issubclass(thing, DeskError):
                self.assertEqual((object,), thing.__bases__, name)


if __name__ == "__main__":
    unittest.main()
