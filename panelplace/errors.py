"""The refusals, one class for each, all of them under PanelError (point 3)."""


class PanelError(ValueError):
    pass


class BadCouples(PanelError):
    pass


class BadJudges(PanelError):
    pass


class SheetSealed(PanelError):
    pass


class UnknownJudge(PanelError):
    pass


class BadCard(PanelError):
    pass


class TooManyCards(PanelError):
    pass


class UnknownCouple(PanelError):
    pass


class LastCouple(PanelError):
    pass


class NoCard(PanelError):
    pass


class TooFewCards(PanelError):
    pass


class AtTop(PanelError):
    pass


class BadRow(PanelError):
    pass
