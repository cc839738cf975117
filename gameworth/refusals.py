"""The refusals, an error class each."""


# Answered as -1: a slot or a side that there isn't, or a row that is too long.
class OutOfPlace(Exception):
    pass


# Answered as -2: a number that the call doesn't take.
class OutOfRange(Exception):
    pass


# Answered as -3: bytes that are no game's.
class NoGame(Exception):
    pass


# Answered as -5: too many parts, or too many options in all.
class NoRoom(Exception):
    pass
