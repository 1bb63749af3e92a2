"""How a row of the desk is read (point 34)."""

from panelplace.errors import BadRow

BARE_WORDS = ("seal", "couples", "places", "parts", "deciders")
JUDGE_WORDS = ("card", "show", "leave", "step")
COUPLE_WORDS = ("strike", "step", "row")
MOST_FIGURES = 3


def read_row(row):
    words = row.split(" ")
    # An empty row, and a blank ahead, behind or too many between, leave an empty word.
    if "" in words:
        raise BadRow("the row is empty or has a blank too many")
    first = words[0]
    if first not in BARE_WORDS + JUDGE_WORDS + COUPLE_WORDS:
        raise BadRow("the row has another first word")
    if first not in JUDGE_WORDS:
        return (first, "", read_couples(first, words[1:]))
    if len(words) == 1:
        raise BadRow("the row has no judge")
    return (first, words[1], read_couples(first, words[2:]))


def read_couples(first, words):
    if first != "card" and len(words) != due_couples(first):
        raise BadRow("the row has a word too few or too many")
    return [read_couple(word) for word in words]


def due_couples(first):
    return 1 if first in COUPLE_WORDS else 0


def read_couple(word):
    if not couple_word(word):
        raise BadRow("a word is no couple")
    return int(word)


def couple_word(word):
    return len(word) <= MOST_FIGURES and word[0] != "0" and all([figure(sign) for sign in word])


def figure(sign):
    return "0" <= sign <= "9"
