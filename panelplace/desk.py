"""The desk: what a row says is done on a sheet and answered with a text (points 35 and 36)."""

from panelplace.asking import deciders, left_out, partings, ranking, step_up
from panelplace.errors import AtTop, BadCard, BadRow, LastCouple, NoCard, SheetSealed
from panelplace.errors import TooFewCards, TooManyCards, UnknownCouple, UnknownJudge
from panelplace.order import by_place
from panelplace.reading import read_row
from panelplace.sheet import Sheet
from panelplace.table import table_row


def answers(couples, judges, rows):
    sheet = Sheet(couples, judges)
    return [answer(sheet, row) for row in rows]


def answer(sheet, row):
    try:
        said = read_row(row)
        return done_and_told(sheet, said[0], said[1], said[2])
    except BadRow:
        return "refused: row"
    except SheetSealed:
        return "refused: sealed"
    except UnknownJudge:
        return "refused: judge"
    except BadCard:
        return "refused: card"
    except TooManyCards:
        return "refused: full"
    except UnknownCouple:
        return "refused: couple"
    except LastCouple:
        return "refused: last"
    except NoCard:
        return "refused: none"
    except TooFewCards:
        return "refused: few"
    except AtTop:
        return "refused: top"


def done_and_told(sheet, first, judge, couples):
    if first == "card":
        sheet.hand_in(judge, couples)
        return "taken"
    if first == "strike":
        sheet.strike(couples[0])
        return "struck"
    if first == "seal":
        sheet.seal()
        return "sealed"
    return only_told(sheet, first, judge, couples)


def only_told(sheet, first, judge, couples):
    if first == "couples":
        return numbers_text(sheet.couples())
    if first == "show":
        return numbers_text(sheet.card_of(judge))
    if first == "places":
        return ranking_text(ranking(sheet))
    if first == "leave":
        return places_text(sheet, left_out(sheet, judge))
    if first == "step":
        return step_text(sheet, judge, couples[0])
    if first == "parts":
        return text_or_none([f"{one}>{other}:{number}:{by}" for one, other, number, by in partings(sheet)])
    if first == "deciders":
        return text_or_none(deciders(sheet))
    return table_row(sheet, couples[0])


def numbers_text(couples):
    return " ".join([str(couple) for couple in couples])


def ranking_text(rows):
    return " ".join([f"{place}:{couple}" for place, couple in rows])


def places_text(sheet, places):
    return ranking_text(by_place(places, sheet.couples()))


def step_text(sheet, judge, couple):
    step = step_up(sheet, judge, couple)
    return str(step[0]) + " | " + places_text(sheet, step[1])


def text_or_none(words):
    return " ".join(words) if words else "none"
