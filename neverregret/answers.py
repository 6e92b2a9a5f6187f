"""What the desk answers to a request, with or without moves, and papers that show that the answer is right."""

from neverregret.basics import is_tuple_of
from neverregret.choices import kinds_at_hand, unbeaten_kinds
from neverregret.covers import is_serving_paper, serving_paper
from neverregret.errors import Refused
from neverregret.fullpapers import full_paper, is_full_paper, paper_rest
from neverregret.houses import MOST_GUESTS, guest_row, guest_serving, whole_stock
from neverregret.moveprices import RemakePaper, is_remake_paper, remake_paper
from neverregret.moves import cheapest_remake, moved_places
from neverregret.safe import does_beat
from neverregret.stocks import bounds_after, row_counts
from neverregret.tables import kinds_of_types, types_without
from neverregret.wanted import most_of_counts


def is_regret(table, house, request):
    """Return whether all guests and one such request are servable together from the whole stock."""
    row = guest_row(house) + (request,)
    return most_of_counts(table, whole_stock(house), row_counts(table, row)) == len(row)


def answer(table, house, request):
    """Return the deed that hands out an unbeaten kind to a request, or refuses it if no kind is at hand."""
    bounds = bounds_after(house.bounds, request)
    if len(house.guests) >= MOST_GUESTS:
        raise Refused("guests")
    kinds = unbeaten_kinds(table, house.stock, bounds, request)
    return ("serve", request, kinds[0], ()) if kinds else ("refuse", request)


def moving_answer(table, house, request):
    """Return the deed as above, but with some moves of as few guests as possible if only these make room."""
    deed = answer(table, house, request)
    if deed[0] == "serve":
        return deed
    row, serving, places, costs = remake_values(house, request)
    remake = cheapest_remake(table, whole_stock(house), row, serving, places, costs)
    return deed if remake is None else deed_of_remake(house, request, remake)


def remake_values(house, request):
    """Return the row of the guests with a request, the serving that refuses it, its place, and costs of 1."""
    many = len(house.guests)
    return guest_row(house) + (request,), guest_serving(house) + (None,), (many,), (1,) * (many + 1)


def deed_of_remake(house, request, remake):
    """Return the deed that serves a request, with the moves that a remake makes."""
    moved = moved_places(guest_serving(house), remake)
    return "serve", request, remake[-1], tuple([(house.guests[place][0], remake[place]) for place in moved])


def remake_of_deed(house, deed):
    """Return what a deed that serves makes of the serving of the guests, with the request behind them."""
    new = {number: kind for number, kind in deed[3]}
    return tuple([new.get(number, kind) for number, _, kind in house.guests]) + (deed[2],)


def answer_paper(table, house, deed):
    """Return some right paper for a deed that serves or refuses, `None` if there is none."""
    if deed[0] == "refuse":
        return serving_paper(table, whole_stock(house), guest_row(house) + (deed[1],))
    if deed[3]:
        paper = paper_of_moves(table, house, deed)
    else:
        paper = papers_at_hand(table, house, deed[1])
    return paper if is_answer_paper(table, house, deed, paper) else None


def paper_of_moves(table, house, deed):
    """Return a paper of the remake that a deed makes, with the prices of a cheapest one."""
    # prices that show of one cheapest remake that none costs less show it of each one
    row, serving, places, costs = remake_values(house, deed[1])
    cheapest = remake_paper(table, whole_stock(house), row, serving, places, costs)
    return RemakePaper(remake_of_deed(house, deed), cheapest.prices)


def papers_at_hand(table, house, request):
    """Return a right `FullPaper` for each kind at hand, with the types that do not accept it."""
    bounds = bounds_after(house.bounds, request)
    kinds = kinds_at_hand(table, house.stock, request)
    return tuple([full_paper(table, house.stock, bounds, types_without(table, kind)) for kind in kinds])


def is_answer_paper(table, house, deed, value):
    """Return whether any value is a right paper for a deed that serves or refuses."""
    if deed[0] == "refuse":
        return is_serving_paper(table, whole_stock(house), guest_row(house) + (deed[1],), value)
    if not deed[3]:
        return do_papers_show(table, house, deed, value)
    row, serving, places, costs = remake_values(house, deed[1])
    if not is_remake_paper(table, whole_stock(house), row, serving, places, costs, value):
        return False
    return value.remake == remake_of_deed(house, deed)


def do_papers_show(table, house, deed, value):
    """Return whether any value is right papers by which no kind at hand beats the one that a deed hands out."""
    _, request, kind, _ = deed
    bounds = bounds_after(house.bounds, request)
    kinds = kinds_at_hand(table, house.stock, request)
    if not is_tuple_of(value, len(kinds)):
        return False
    worse = {}
    for other, paper in zip(kinds, value):
        if not is_full_paper(table, house.stock, bounds, paper) or paper.types != types_without(table, other):
            return False
        worse[other] = kinds_of_types(table, paper_rest(table, paper))
    return not any([does_beat(worse, other, kind) for other in kinds])
