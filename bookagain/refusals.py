"""The refusals of the calls, an error class for each."""


# -22: the text isn't one statement, or what should be a book or a happening is none.
class Malformed(Exception):
    pass


# -33: a loop whose statement may end well at once would never wait.
class LoopMustWait(Exception):
    pass


# -16: something couldn't have happened when it did, or couldn't happen now.
class CouldNotHappen(Exception):
    pass


# -34: the book doesn't fit the text.
class DoesNotFit(Exception):
    pass
