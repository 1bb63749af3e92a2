"""A judge's card, the best couple first (points 6 to 9)."""

from panelplace.errors import AtTop


def whole_card(card, couples):
    # Good couples hold no two alike, so a card that doubles one can't come out the same.
    return sorted(card) == sorted(couples)


def mark_on(card, couple):
    return card.index(couple) + 1


def without_couple(card, couple):
    return [other for other in card if other != couple]


def one_up(card, couple):
    place = card.index(couple)
    # Asked first, as the index -1 would quietly mean the last one on the card.
    if place == 0:
        raise AtTop(f"couple {couple} is the first one on the card")
    passed = card[place - 1]
    return card[:place - 1] + [couple, passed] + card[place + 1:]
