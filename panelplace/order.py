"""Who is ahead of whom, the places and the ranking (points 15 and 16)."""

from panelplace.tally import first_number, granted, granted_sum, marks_of


def is_ahead(one, other):
    if first_number(one) != first_number(other):
        return first_number(one) < first_number(other)
    number = unlike_at(one, other)
    if number is None:
        return False
    if granted(one, number) != granted(other, number):
        return granted(one, number) > granted(other, number)
    return granted_sum(one, number) < granted_sum(other, number)


def unlike_at(one, other):
    # It begins at the first number that both have, as nothing below it parts anybody.
    for number in range(first_number(one), max(one + other) + 1):
        if granted(one, number) != granted(other, number):
            return number
        if granted_sum(one, number) != granted_sum(other, number):
            return number
    return None


def places_of(cards, couples):
    rows = [marks_of(cards, couple) for couple in couples]
    return [place_among(rows, own) for own in rows]


def place_among(rows, own):
    return 1 + len([marks for marks in rows if is_ahead(marks, own)])


def ranking_of(cards, couples):
    return by_place(places_of(cards, couples), couples)


def by_place(places, couples):
    # By place alone, as sorting leaves those that share one in the order of the couples.
    return sorted(zip(places, couples), key=lambda row: row[0])
