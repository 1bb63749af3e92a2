"""The sheet that keeps the cards of one dance (points 19 to 23)."""

from panelplace.cards import whole_card, without_couple
from panelplace.errors import BadCard, BadCouples, BadJudges, LastCouple, NoCard, SheetSealed
from panelplace.errors import TooManyCards, UnknownCouple, UnknownJudge
from panelplace.names import good_couples, good_judges

MOST_CARDS = 200


# The words of the refusals name no number that was handed in: one of some thousand figures can't be written out.
class Sheet:
    def __init__(self, couples, judges):
        if not good_couples(couples):
            raise BadCouples("these are no good couples")
        if not good_judges(judges):
            raise BadJudges("these are no good judges")
        self.standing = list(couples)
        self.struck_so_far = []
        self.panel = list(judges)
        self.card_by_judge = {}
        self.taken_so_far = 0
        self.sealed = False

    def hand_in(self, judge, card):
        self.refuse_if_sealed()
        self.refuse_unknown_judge(judge)
        if not whole_card(card, self.standing):
            raise BadCard("the card is not whole for the couples that stand")
        if self.taken_so_far >= MOST_CARDS:
            raise TooManyCards("as many cards as may be were handed in already")
        self.card_by_judge[judge] = list(card)
        self.taken_so_far = self.taken_so_far + 1

    def strike(self, couple):
        self.refuse_if_sealed()
        if couple not in self.standing:
            raise UnknownCouple("no couple of that number stands")
        if len(self.standing) == 1:
            raise LastCouple("it is the only couple that stands")
        self.standing = without_couple(self.standing, couple)
        self.struck_so_far.append(couple)
        for judge in self.handed():
            self.card_by_judge[judge] = without_couple(self.card_by_judge[judge], couple)

    def seal(self):
        self.refuse_if_sealed()
        self.sealed = True

    def couples(self):
        return list(self.standing)

    def struck(self):
        return list(self.struck_so_far)

    def judges(self):
        return list(self.panel)

    def handed(self):
        return [judge for judge in self.panel if judge in self.card_by_judge]

    def cards(self):
        return [self.card_of(judge) for judge in self.handed()]

    def card_of(self, judge):
        self.refuse_unknown_judge(judge)
        if judge not in self.card_by_judge:
            raise NoCard("that judge has handed in no card")
        return list(self.card_by_judge[judge])

    def taken(self):
        return self.taken_so_far

    def is_sealed(self):
        return self.sealed

    def refuse_if_sealed(self):
        if self.sealed:
            raise SheetSealed("the sheet is sealed")

    def refuse_unknown_judge(self, judge):
        if judge not in self.panel:
            raise UnknownJudge("no judge of the sheet has that name")
