"""The refusals of the calls, an error class for each."""


# -22: the text isn't one statement, or what should be a book is none.
class Malformed(Exception):
    pass


# -33: a loop whose statement may end well at once would never wait.
class LoopMustWait(Exception):
    pass


# -16: something couldn't have happened when it did.
class CouldNotHappen(Exception):
    pass
