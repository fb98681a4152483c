"""The errors with which the program refuses what is handed in."""


# Any refusal stands under this one, so that a caller can take them all by one name.
class YardError(ValueError):
    pass


class BadYard(YardError):
    pass
