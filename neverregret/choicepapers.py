"""Papers that show that a kind is a best one for a request, or that there is none."""

from neverregret.basics import is_number_below, is_tuple_of
from neverregret.choices import best_kinds, kinds_at_hand
from neverregret.errors import Refused
from neverregret.safe import worse_by_kind
from neverregret.safepapers import comparison_paper, is_safe_paper, is_worse_paper


class ChoicePaper:
    """A type, a kind at hand, and a `SafePaper` of it against each other kind at hand."""

    def __init__(self, request, kind, papers):
        self.request = request
        self.kind = kind
        self.papers = papers


class NoChoicePaper:
    """A type, and for each kind at hand a `WorsePaper` of it against some kind at hand."""

    def __init__(self, request, papers):
        self.request = request
        self.papers = papers


def choice_paper(table, stock, bounds, request):
    """Return some right paper of either class for a request."""
    kinds = kinds_at_hand(table, stock, request)
    if not kinds:
        raise Refused("unit")
    best = best_kinds(table, stock, bounds, request)
    if best:
        papers = [comparison_paper(table, stock, bounds, best[0], other) for other in kinds if other != best[0]]
        return ChoicePaper(request, best[0], tuple(papers))
    worse = worse_by_kind(table, stock, bounds, kinds)
    papers = []
    for kind in kinds:
        others = [other for other in kinds if kind in worse[other]]
        papers.append(comparison_paper(table, stock, bounds, kind, others[0]))
    return NoChoicePaper(request, tuple(papers))


def is_choice_paper(table, stock, bounds, value):
    """Return whether any value is a right `ChoicePaper`."""
    if not isinstance(value, ChoicePaper) or not is_number_below(value.request, len(table.types)):
        return False
    kinds = kinds_at_hand(table, stock, value.request)
    if not is_number_below(value.kind, len(stock)) or value.kind not in kinds:
        return False
    others = [kind for kind in kinds if kind != value.kind]
    if not is_tuple_of(value.papers, len(others)):
        return False
    for paper, other in zip(value.papers, others):
        if not is_safe_paper(table, stock, bounds, paper):
            return False
        if paper.one != value.kind or paper.other != other:
            return False
    return True


def is_no_choice_paper(table, stock, bounds, value):
    """Return whether any value is a right `NoChoicePaper`."""
    if not isinstance(value, NoChoicePaper) or not is_number_below(value.request, len(table.types)):
        return False
    kinds = kinds_at_hand(table, stock, value.request)
    if not kinds or not is_tuple_of(value.papers, len(kinds)):
        return False
    for paper, kind in zip(value.papers, kinds):
        if not is_worse_paper(table, stock, bounds, paper):
            return False
        if paper.one != kind or paper.other not in kinds:
            return False
    return True
