"""Counts and sums of a couple's marks (points 10 to 14)."""

from panelplace.cards import mark_on


def majority_of(many):
    return many // 2 + 1


def marks_of(cards, couple):
    return [mark_on(card, couple) for card in cards]


def granted(marks, number):
    return len(granting(marks, number))


def granted_sum(marks, number):
    return sum(granting(marks, number))


def granting(marks, number):
    return [mark for mark in marks if mark <= number]


def first_number(marks):
    # The count reaches more than half at the mark that completes it when the marks come in, the least first.
    return sorted(marks)[majority_of(len(marks)) - 1]


def ladder_of(marks, last):
    return [(granted(marks, number), granted_sum(marks, number)) for number in range(1, last + 1)]
