"""Whether answers and statements of any kind, with their papers, are right."""

from neverregret.answers import is_answer_paper
from neverregret.basics import are_numbers, is_tuple_of
from neverregret.choicepapers import is_choice_paper, is_no_choice_paper
from neverregret.choices import kinds_at_hand
from neverregret.commands import is_command
from neverregret.court import Crossing, is_verdict
from neverregret.covers import is_serving_paper
from neverregret.errors import Refused
from neverregret.houses import MOST_GUESTS, House, house_after, is_deed, is_guest_number, is_house
from neverregret.repairs import check_costs, is_repair_paper
from neverregret.runs import costs_of_one
from neverregret.safepapers import is_safe_paper, is_worse_paper
from neverregret.servings import served_places
from neverregret.stocks import bounds_after
from neverregret.striking import is_way_to_strike, items_for
from neverregret.tables import Table, bounds_fault, row_fault, stock_fault


def is_just(value, told):
    """Return whether any value is what is told: a number, a string, `None` or tuples of these; True is no number."""
    if isinstance(told, tuple):
        return is_tuple_of(value, len(told)) and all([is_just(item, other) for item, other in zip(value, told)])
    if told is None:
        return value is None
    if isinstance(told, str):
        return isinstance(value, str) and value == told
    return isinstance(value, int) and not isinstance(value, bool) and value == told


def run_fault(table, stock, bounds, commands, answers):
    """Return the number of the first of any answers that is not right, lacks or is too much, or `None`."""
    if not isinstance(answers, tuple):
        return 0
    house = House(stock, bounds, ())
    for number, command in enumerate(commands):
        if number >= len(answers) or not is_tuple_of(answers[number], 2):
            return number
        result, paper = answers[number]
        if not is_right_pair(table, house, command, result, paper):
            return number
        if result[0] == "did":
            house = house_after(table, house, result[1])
    return len(commands) if len(answers) > len(commands) else None


def is_right_pair(table, house, command, result, paper):
    """Return whether any values are a result that a command can have in a house, and a right paper that shows it."""
    word = refused_word(table, house, command)
    if word is not None:
        return is_just(result, ("refused", word)) and paper is None
    if command[0] == "leave" or command[0] == "bounds":
        return is_just(result, ("did", command)) and paper is None
    if command[0] == "come" or command[0] == "moving":
        return is_right_coming(table, house, command, result, paper)
    if command[0] == "court":
        return is_verdict(table, paper) and is_just(result, result_by_verdict(paper))
    if command[0] == "most":
        if not is_serving_paper(table, house.stock, command[1], paper):
            return False
        return is_just(result, ("most", len(served_places(paper.serving))))
    if command[0] == "safe":
        return is_right_comparison(table, house, command, result, paper)
    if command[0] == "choice":
        return is_right_choice(table, house, command[1], result, paper)
    if not is_repair_paper(table, command[1], costs_of_one(table, command[1]), paper):
        return False
    return is_just(result, ("repair", command[1], paper.lot))


def refused_word(table, house, command):
    """Return the word with which a command is refused in a house, `None` if it is not."""
    word = command[0]
    if word == "leave":
        return None if is_guest_number(house, command[1]) else "guest"
    if word == "safe":
        return "unit" if house.stock[command[1]] == 0 or house.stock[command[2]] == 0 else None
    if word == "repair":
        return None if is_repairable(table, command[1]) else "size"
    if word not in ("come", "moving", "choice"):
        return None
    if house.bounds[command[1]] == 0:
        return "bound"
    if word == "choice":
        return None if kinds_at_hand(table, house.stock, command[1]) else "unit"
    return "guests" if len(house.guests) >= MOST_GUESTS else None


def is_repairable(table, way):
    """Return whether cheapest repairs of a table are looked for in a way."""
    try:
        check_costs(table, way, costs_of_one(table, way))
    except Refused:
        return False
    return True


def is_right_coming(table, house, command, result, paper):
    """Return whether any values are a deed that can be done for a request that comes, and a right paper of it."""
    if not is_tuple_of(result, 2) or not is_just(result[0], "did"):
        return False
    deed = result[1]
    if not is_deed(table, house, deed) or deed[0] not in ("serve", "refuse") or deed[1] != command[1]:
        return False
    if not is_answer_paper(table, house, deed, paper):
        return False
    if kinds_at_hand(table, house.stock, command[1]):
        return deed[0] == "serve" and not deed[3]
    if command[0] == "come":
        return deed[0] == "refuse"
    return deed[0] == "serve" or len(served_places(paper.serving)) <= len(house.guests)


def result_by_verdict(verdict):
    """Return the result that a right verdict shows."""
    return ("crossing", verdict.kinds, verdict.types) if isinstance(verdict, Crossing) else ("forest",)


def is_right_comparison(table, house, command, result, paper):
    """Return whether any values are whether a kind is safe against another one, and a right paper of it."""
    word = None
    if is_safe_paper(table, house.stock, house.bounds, paper):
        word = "safe"
    elif is_worse_paper(table, house.stock, house.bounds, paper):
        word = "worse"
    if word is None or not is_just(result, (word,)):
        return False
    return paper.one == command[1] and paper.other == command[2]


def is_right_choice(table, house, request, result, paper):
    """Return whether any values are a best kind for a request, or that there is none, and a right paper of it."""
    bounds = bounds_after(house.bounds, request)
    if is_choice_paper(table, house.stock, bounds, paper):
        return paper.request == request and is_just(result, ("best", paper.kind))
    if is_no_choice_paper(table, house.stock, bounds, paper):
        return paper.request == request and is_just(result, ("none",))
    return False


def is_so(value):
    """Return whether any value is a statement that is so."""
    if not isinstance(value, tuple) or len(value) < 3:
        return False
    word, table = value[:2]
    if not isinstance(word, str) or not isinstance(table, Table):
        return False
    if word == "court":
        return len(value) == 3 and is_verdict(table, value[2])
    if word in ("most", "safe", "choice"):
        return len(value) == 5 and is_paper_so(word, table, value[2], value[3], value[4])
    if word == "repair":
        return len(value) == 5 and is_repair_so(table, value[2], value[3], value[4])
    if word == "pair":
        return len(value) == 6 and is_pair_so(table, value[2], value[3], value[4], value[5])
    return word == "run" and len(value) == 6 and is_run_so(table, value[2], value[3], value[4], value[5])


def is_paper_so(word, table, stock, told, paper):
    """Return whether any values are a stock, a row or bounds, and a right paper for them."""
    if stock_fault(table, stock) is not None:
        return False
    if word == "most":
        return row_fault(table, told) is None and is_serving_paper(table, stock, told, paper)
    if bounds_fault(table, told) is not None:
        return False
    if word == "safe":
        return is_safe_paper(table, stock, told, paper) or is_worse_paper(table, stock, told, paper)
    return is_choice_paper(table, stock, told, paper) or is_no_choice_paper(table, stock, told, paper)


def is_repair_so(table, way, costs, paper):
    """Return whether any values are a way, costs and a right paper of a cheapest repair."""
    if not is_way_to_strike(way) or not are_numbers(costs, len(items_for(table, way))):
        return False
    return is_repairable(table, way) and is_repair_paper(table, way, costs, paper)


def is_pair_so(table, house, command, result, paper):
    """Return whether any values are a house, a command, and a right pair of a result and a paper for it."""
    if not is_house(table, house) or not is_command(table, command):
        return False
    return is_right_pair(table, house, command, result, paper)


def is_run_so(table, stock, bounds, commands, answers):
    """Return whether any values are a stock, bounds, commands and right answers to them."""
    if stock_fault(table, stock) is not None or bounds_fault(table, bounds) is not None:
        return False
    if not isinstance(commands, tuple) or not all([is_command(table, command) for command in commands]):
        return False
    return run_fault(table, stock, bounds, commands, answers) is None


def not_so(values):
    """Return the lot of the numbers of those of any values that are not so."""
    return tuple([number for number, value in enumerate(values) if not is_so(value)])
