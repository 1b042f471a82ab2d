"""From the row of numbers that a text is to the statement that it tells.

A statement or an expression is a tuple: its number, then what belongs to it, in the document's order.
"""

from bookagain.refusals import Malformed

MOST_NUMBERS = 160
MOST_LEVELS = 24

# What belongs to each: e an expression, S a statement, else a plain number, told by its letter.
STATEMENTS = ("", "ve", "kevb", "e", "cv", "ece", "e", "SS", "eSS", "eS", "SS", "eSS", "vSS", "S", "nSS")
EXPRESSIONS = ("x", "v", "ee", "ee", "ee", "ee", "ee")
BELOW = {"v": 8, "k": 8, "b": 9, "c": 4, "n": 8, "x": 4294967296}


class Reader:
    def __init__(self, row):
        self.row = row
        self.place = 0

    def read_number(self, below):
        if self.place == len(self.row) or self.row[self.place] >= below:
            raise Malformed()
        self.place += 1
        return self.row[self.place - 1]

    def read_statement(self, level):
        kind = self.read_number(len(STATEMENTS))
        return self.read_parts(kind, STATEMENTS[kind], level)

    def read_expression(self, level):
        kind = self.read_number(len(EXPRESSIONS))
        return self.read_parts(kind, EXPRESSIONS[kind], level)

    def read_parts(self, kind, letters, level):
        if level > MOST_LEVELS:
            raise Malformed()
        found = [kind]
        for letter in letters:
            found.append(self.read_part(letter, level + 1))
        return tuple(found)

    def read_part(self, letter, level):
        if letter == "S":
            return self.read_statement(level)
        if letter == "e":
            return self.read_expression(level)
        return self.read_number(BELOW[letter])


def read_text(row):
    if len(row) > MOST_NUMBERS:
        raise Malformed()
    reader = Reader(row)
    statement = reader.read_statement(1)
    if reader.place < len(row):
        raise Malformed()
    return statement


def statements_in(statement):
    found = []
    for place, letter in enumerate(STATEMENTS[statement[0]]):
        if letter == "S":
            found.append(statement[place + 1])
    return found
