"""The errors by which Blankform refuses what is handed in."""


class FormError(ValueError):
    pass


class NoTerm(FormError):
    pass


class NoPart(FormError):
    pass
