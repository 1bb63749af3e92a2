"""Questions to a sheet: the places, who decides and what one step does (points 24 to 27)."""

from panelplace.cards import one_up
from panelplace.errors import TooFewCards, UnknownCouple
from panelplace.order import places_of, ranking_of
from panelplace.parting import partings_of


def places(sheet):
    refuse_fewer_cards(sheet, 1)
    return places_of(sheet.cards(), sheet.couples())


def ranking(sheet):
    refuse_fewer_cards(sheet, 1)
    return ranking_of(sheet.cards(), sheet.couples())


def firsts(sheet):
    refuse_fewer_cards(sheet, 1)
    return firsts_of(sheet.cards(), sheet.couples())


def partings(sheet):
    refuse_fewer_cards(sheet, 1)
    return partings_of(sheet.cards(), sheet.couples())


def left_out(sheet, judge):
    # Asked for its refusals alone, which come ahead of that for too few cards.
    sheet.card_of(judge)
    refuse_fewer_cards(sheet, 2)
    return places_of(cards_without(sheet, judge), sheet.couples())


def deciders(sheet):
    refuse_fewer_cards(sheet, 2)
    # Both lists stand in the order of the couples, so they are unlike just where other couples are first.
    now = firsts(sheet)
    return [judge for judge in sheet.handed() if firsts_of(cards_without(sheet, judge), sheet.couples()) != now]


def step_up(sheet, judge, couple):
    card = sheet.card_of(judge)
    if couple not in sheet.couples():
        raise UnknownCouple("no couple of that number stands")
    stepped = one_up(card, couple)
    # The one passed stands now where the couple stood.
    passed = stepped[card.index(couple)]
    cards = [stepped if other == judge else sheet.card_of(other) for other in sheet.handed()]
    return (passed, places_of(cards, sheet.couples()))


def refuse_fewer_cards(sheet, least):
    if len(sheet.handed()) < least:
        raise TooFewCards("too few cards are in for that question")


def firsts_of(cards, couples):
    return [couple for place, couple in zip(places_of(cards, couples), couples) if place == 1]


def cards_without(sheet, judge):
    return [sheet.card_of(other) for other in sheet.handed() if other != judge]
