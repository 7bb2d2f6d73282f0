"""The refusals of the program, one class each."""


class HueError(ValueError):
    pass


class NoWeb(HueError):
    pass


class NoPlace(HueError):
    pass


class NoTie(HueError):
    pass


class NoWants(HueError):
    pass


class NoFold(HueError):
    pass


class NoNumber(HueError):
    pass


class TooMany(HueError):
    pass


class NoText(HueError):
    pass


class NoRow(HueError):
    pass
