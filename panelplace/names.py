"""Which couples and which judges are good (points 4 and 5)."""

MOST_COUPLES = 24
MOST_JUDGES = 15
MOST_NUMBER = 999
MOST_SIGNS = 8


def good_couples(couples):
    return (
        good_length(couples, MOST_COUPLES)
        and all_unlike(couples)
        and all([good_number(couple) for couple in couples])
    )


def good_judges(judges):
    return (
        good_length(judges, MOST_JUDGES)
        and all_unlike(judges)
        and all([good_name(judge) for judge in judges])
    )


def good_number(couple):
    return 1 <= couple <= MOST_NUMBER


def good_name(judge):
    return good_length(judge, MOST_SIGNS) and all([small_letter(sign) for sign in judge])


def small_letter(sign):
    return "a" <= sign <= "z"


def good_length(things, most):
    return 1 <= len(things) <= most


def all_unlike(things):
    return len(set(things)) == len(things)
