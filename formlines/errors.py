"""The refusals of the program."""


class FormError(ValueError):
    """Any refusal."""


class NoTable(FormError):
    """Too many tables, or one that is none."""


class NoForm(FormError):
    """Lines, choices, an owed line or years of which no form or file can be made."""


class NoRule(FormError):
    """A line that is no rule of the lines, tables and choices that there are."""


class Ring(FormError):
    """A line that names itself in the same year, through others or not."""


class NoPaper(FormError):
    """Papers, or a paper's word or number, that can't be."""


class NoYear(FormError):
    """A year that there is not."""


class NoLine(FormError):
    """A line that there is not."""


class NoChoice(FormError):
    """A choice that there is not, or choices that can't be taken so."""


class TooMany(FormError):
    """More choices than all years together may have."""
