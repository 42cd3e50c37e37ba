"""The refusals of the program."""


class PathError(ValueError):
    pass


class NoStretch(PathError):
    pass
