"""What several of the tests share: mixed lists, the order told in another way, and questions to a sheet."""

import itertools

from panelplace import asking, errors, table
from panelplace.sheet import Sheet

JUDGES = ["j" + letter for letter in "abcdefghijklmno"]
# One dance that several of the tests speak of: its couples, its judges and their cards.
COUPLES = [17, 4, 230, 9]
PANEL = ["dora", "bo", "anna"]
DORA, BO, ANNA = [4, 230, 17, 9], [17, 9, 4, 230], [9, 17, 230, 4]


def mixed(things, turn):
    """The things in an order that hangs on the number turn alone."""
    order = sorted(range(len(things)), key=lambda k: ((k + 1) * (7919 + 104729 * turn) % 10007, k))
    return [things[k] for k in order]


def mixed_cards(couples, many, turn):
    return [mixed(couples, turn + 31 * k) for k in range(many)]


def counted(marks, number):
    many, total = 0, 0
    for mark in marks:
        if mark <= number:
            many, total = many + 1, total + mark
    return many, total


def first_by_trying(marks):
    number = 1
    while 2 * counted(marks, number)[0] <= len(marks):
        number += 1
    return number


def standing(marks):
    """Point 15 as one key up to 30, which is beyond every mark: the lesser key is ahead."""
    first = first_by_trying(marks)
    steps = [counted(marks, number) for number in range(first, 31)]
    return [first] + [part for many, total in steps for part in (-many, total)]


def held_together(one, other):
    """What points 15 and 17 ask of two lists of marks: (is one ahead, what parts them)."""
    ahead = standing(one) < standing(other)
    firsts = first_by_trying(one), first_by_trying(other)
    if firsts[0] != firsts[1]:
        return ahead, (min(firsts), "half")
    for number in range(firsts[0], 31):
        here = counted(one, number), counted(other, number)
        if here[0] != here[1]:
            return ahead, (number, "count" if here[0][0] != here[1][0] else "sum")
    return ahead, None


def marks_by_hand(cards, couple):
    return [[k for k, each in enumerate(card, start=1) if each == couple][0] for card in cards]


def places_by_hand(cards, couples):
    keys = [standing(marks_by_hand(cards, couple)) for couple in couples]
    return [1 + len([key for key in keys if key < own]) for own in keys]


def told(sheet):
    """All that a sheet tells, the card of each judge and of a stranger among it."""
    return {
        "couples": sheet.couples(),
        "struck": sheet.struck(),
        "judges": sheet.judges(),
        "handed": sheet.handed(),
        "cards": sheet.cards(),
        "card_of": [outcome(sheet.card_of, judge) for judge in sheet.judges() + ["stranger"]],
        "taken": sheet.taken(),
        "is_sealed": sheet.is_sealed(),
    }


def asked(sheet):
    """The answers to all questions of panelplace.asking and panelplace.table, refused ones among them."""
    judges = sheet.judges() + ["stranger"]
    couples = sheet.couples() + sheet.struck() + [0]
    return {
        "places": outcome(asking.places, sheet),
        "ranking": outcome(asking.ranking, sheet),
        "firsts": outcome(asking.firsts, sheet),
        "partings": outcome(asking.partings, sheet),
        "left_out": [outcome(asking.left_out, sheet, judge) for judge in judges],
        "deciders": outcome(asking.deciders, sheet),
        "step_up": [outcome(asking.step_up, sheet, judge, couple) for judge in judges for couple in couples],
        "table": outcome(table.table, sheet),
        "table_row": [outcome(table.table_row, sheet, couple) for couple in couples],
    }


def outcome(ask, *handed_in):
    """What is told, or the name of the error's class."""
    try:
        return ask(*handed_in)
    except errors.PanelError as error:
        return type(error).__name__


def sheet_of(couples, cards, judges=None):
    """A sheet with these cards in; the judges are called ja, jb and so on if none are told."""
    judges = judges or JUDGES[:len(cards)]
    sheet = Sheet(couples, judges)
    for judge, card in zip(judges, cards):
        sheet.hand_in(judge, list(card))
    return sheet


def with_none():
    return Sheet(COUPLES, PANEL)


def with_anna():
    sheet = with_none()
    sheet.hand_in("anna", ANNA)
    return sheet


def with_two():
    sheet = with_anna()
    sheet.hand_in("dora", DORA)
    return sheet


def with_three():
    sheet = with_two()
    sheet.hand_in("bo", BO)
    return sheet


def panels(couples, many):
    """Every panel of so many cards, whatever the order of its judges."""
    return itertools.combinations_with_replacement(list(itertools.permutations(couples)), many)


def refusal_of(deed, *handed_in):
    """The names of the interface's classes that the error of a refused deed is of."""
    classes = [kind for kind in vars(errors).values() if isinstance(kind, type)]
    try:
        deed(*handed_in)
    except ValueError as error:
        return sorted(kind.__name__ for kind in classes if isinstance(error, kind))
    return []


def only(name):
    """What refusal_of tells of an error of that class and of no other but PanelError."""
    return sorted([name, "PanelError"])
