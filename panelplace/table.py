"""The table of places, marks and ladders (point 33)."""

from panelplace.asking import places, ranking
from panelplace.errors import UnknownCouple
from panelplace.tally import ladder_of, marks_of


def table_row(sheet, couple):
    # The places are asked for first, as the refusal for no card comes ahead of that for the couple.
    all_places = places(sheet)
    if couple not in sheet.couples():
        raise UnknownCouple("no couple of that number stands")
    return row_text(sheet, all_places[sheet.couples().index(couple)], couple)


def table(sheet):
    return [row_text(sheet, place, couple) for place, couple in ranking(sheet)]


def row_text(sheet, place, couple):
    marks = marks_of(sheet.cards(), couple)
    ladder = ladder_of(marks, len(sheet.couples()))
    head = [str(place), str(couple)]
    steps = [f"{many}/{total}" for many, total in ladder]
    return " ".join(head + ["|"] + [str(mark) for mark in marks] + ["|"] + steps)
