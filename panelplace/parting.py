"""What parts two couples, and what parts neighbours in the ranking (points 17 and 18)."""

from panelplace.order import ranking_of, unlike_at
from panelplace.tally import first_number, granted, marks_of


def parting_of(one, other):
    if first_number(one) != first_number(other):
        return (min(first_number(one), first_number(other)), "half")
    number = unlike_at(one, other)
    if number is None:
        return None
    if granted(one, number) != granted(other, number):
        return (number, "count")
    return (number, "sum")


def partings_of(cards, couples):
    ranked = [couple for place, couple in ranking_of(cards, couples)]
    rows = []
    for one, other in zip(ranked, ranked[1:]):
        parting = parting_of(marks_of(cards, one), marks_of(cards, other))
        # Neighbours share a place just where nothing parts them.
        if parting is not None:
            rows.append((one, other, parting[0], parting[1]))
    return rows
