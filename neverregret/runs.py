"""Runs: commands carried out in a house, one after another, with their results, papers and lines."""

from neverregret.answers import answer, answer_paper, moving_answer
from neverregret.choicepapers import choice_paper
from neverregret.choices import best_kinds, kinds_at_hand
from neverregret.commands import read_commands, show_command
from neverregret.court import Crossing, court
from neverregret.covers import serving_paper
from neverregret.errors import Refused
from neverregret.houses import House, house_after, is_guest_number
from neverregret.repairs import cheapest_repair, repair_paper
from neverregret.safe import is_safe
from neverregret.safepapers import comparison_paper
from neverregret.servings import most_by_ways
from neverregret.stocks import bounds_after
from neverregret.striking import items_for
from neverregret.tables import kind_names, type_names


def run_commands(table, stock, bounds, commands):
    """Return the result of each command, one after another."""
    return tuple([result for _, result in steps_of_run(table, stock, bounds, commands)])


def steps_of_run(table, stock, bounds, commands):
    """Return for each command the house in which it is carried out, and its result."""
    house = House(stock, bounds, ())
    steps = []
    for command in commands:
        result = result_of(table, house, command)
        steps.append((house, result))
        house = house_behind(table, house, result)
    return steps


def house_behind(table, house, result):
    """Return the house behind a result."""
    return house_after(table, house, result[1]) if result[0] == "did" else house


def house_of_run(table, stock, bounds, results):
    """Return the house behind the deeds in results."""
    house = House(stock, bounds, ())
    for result in results:
        house = house_behind(table, house, result)
    return house


def result_of(table, house, command):
    """Return the result of a command in a house."""
    try:
        return result_unless_refused(table, house, command)
    except Refused as refused:
        return "refused", refused.word


def result_unless_refused(table, house, command):
    """Return the result of a command in a house, or raise `Refused` with the word of why there is none."""
    word = command[0]
    if word == "come":
        return "did", answer(table, house, command[1])
    if word == "moving":
        return "did", moving_answer(table, house, command[1])
    if word == "leave" and not is_guest_number(house, command[1]):
        raise Refused("guest")
    if word == "leave" or word == "bounds":
        return "did", command
    if word == "court":
        return result_of_court(table)
    if word == "most":
        return "most", most_by_ways(table, house.stock, command[1])
    if word == "safe":
        return ("safe",) if is_safe(table, house.stock, house.bounds, command[1], command[2]) else ("worse",)
    if word == "choice":
        return result_of_choice(table, house, command[1])
    _, lot = cheapest_repair(table, command[1], costs_of_one(table, command[1]))
    return "repair", command[1], lot


def result_of_court(table):
    """Return the result of asking for the verdict."""
    verdict = court(table)
    return ("crossing", verdict.kinds, verdict.types) if isinstance(verdict, Crossing) else ("forest",)


def result_of_choice(table, house, request):
    """Return the result of asking for a best kind, or raise `Refused` for what stands against it."""
    bounds = bounds_after(house.bounds, request)
    if not kinds_at_hand(table, house.stock, request):
        raise Refused("unit")
    best = best_kinds(table, house.stock, bounds, request)
    return ("best", best[0]) if best else ("none",)


def costs_of_one(table, way):
    """Return costs of 1 for all that can be struck in a way."""
    return (1,) * len(items_for(table, way))


def run_with_papers(table, stock, bounds, commands):
    """Return for each command a pair of its result and a right paper, or `None`."""
    steps = steps_of_run(table, stock, bounds, commands)
    return tuple([(result, paper_of(table, house, command, result))
                  for command, (house, result) in zip(commands, steps)])


def paper_of(table, house, command, result):
    """Return a right paper that shows the result of a command in a house, `None` if there is nothing to show."""
    word = command[0]
    if result[0] == "refused" or word == "leave" or word == "bounds":
        return None
    if word == "come" or word == "moving":
        return answer_paper(table, house, result[1])
    if word == "court":
        return court(table)
    if word == "most":
        return serving_paper(table, house.stock, command[1])
    if word == "safe":
        return comparison_paper(table, house.stock, house.bounds, command[1], command[2])
    if word == "choice":
        return choice_paper(table, house.stock, bounds_after(house.bounds, command[1]), command[1])
    return repair_paper(table, command[1], costs_of_one(table, command[1]))


def show_result(table, result):
    """Return the line of a result."""
    if result[0] == "did":
        return show_deed(table, result[1])
    return " ".join([word for word in [result[0]] + words_of_result(table, result) if word])


def show_deed(table, deed):
    """Return the line of a deed."""
    if deed[0] == "refuse":
        return f"refuse {type_names(table)[deed[1]]}"
    if deed[0] != "serve":
        return show_command(table, deed)
    _, request, kind, moves = deed
    parts = [f"serve {type_names(table)[request]} {kind_names(table)[kind]}"]
    for number, new in moves:
        parts.append(f"{number} {kind_names(table)[new]}")
    return ", ".join(parts)


def words_of_result(table, result):
    """Return the list of the texts that stand behind the word of a result that is no deed."""
    kinds = kind_names(table)
    types = type_names(table)
    if result[0] == "crossing":
        return [kinds[kind] for kind in result[1]] + [types[request] for request in result[2]]
    if result[0] == "best":
        return [kinds[result[1]]]
    if result[0] == "repair":
        return [result[1], show_items(table, result[1], result[2])]
    return [str(value) for value in result[1:]]


def show_items(table, way, items):
    """Return the names of what is struck in a way."""
    kinds = kind_names(table)
    types = type_names(table)
    if way == "kinds":
        return " ".join([kinds[kind] for kind in items])
    if way == "types":
        return " ".join([types[request] for request in items])
    return ", ".join([types[request] + " " + kinds[kind] for request, kind in items])


def run_script(table, stock, bounds, text):
    """Return the lines of the results of the commands of a text."""
    results = run_commands(table, stock, bounds, read_commands(table, text))
    return tuple([show_result(table, result) for result in results])
