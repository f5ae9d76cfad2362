"""The refusals, one error for each number that a refused call is answered by."""


# Answered by -1: a style's or a class's numbers are out of their ranges.
class WrongStyle(ValueError):
    pass


# Answered by -3: the numbers are no right list's.
class WrongList(ValueError):
    pass


# Answered by -4: what's asked for isn't there, or more of the column is wanted.
class NotThere(ValueError):
    pass


# Answered by -6: the column couldn't be kept, or a page couldn't be told.
class NotKept(ValueError):
    pass
