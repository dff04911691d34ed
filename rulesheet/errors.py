"""The refusals of a sheet."""


class SheetError(ValueError):
    """Any refusal."""


class BadSize(SheetError):
    """A sheet has too few or too many rows or columns."""


class OffSheet(SheetError):
    """A place or a reference lies off the sheet."""


class TooDeep(SheetError):
    """A rule is deeper than a sheet takes."""
