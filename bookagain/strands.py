"""What has been begun and hasn't ended: a strand for each statement that may wait.

An end is a pair: how it ended, and what it failed with (else 0). Where an end is told, None means
that it hasn't ended yet.
"""

from bookagain.codes import BESIDE, CATCH, DEAL, FAILED, HAS_DONE, LIMIT, LISTEN, LOOP, OFF, STEP, THEN, WELL


class Strand:
    def __init__(self, statement, above):
        self.statement = statement
        self.above = above
        self.deal = None if above is None else above.deal
        # What runs in it, from the left.
        self.parts = []
        self.called = False

    def listeners(self):
        found = []
        for part in self.parts:
            found.extend(part.listeners())
        return found

    def call_off(self, errand):
        if self.called:
            return None
        self.called = True
        return self.give_way(errand)

    def give_way(self, errand):
        return self.call_off_parts(errand)

    def call_off_parts(self, errand):
        left = []
        for part in self.parts:
            if part.call_off(errand) is None:
                left.append(part)
        self.parts = left
        return None if left else (OFF, 0)

    def part_ended(self, errand, end):
        if end is None:
            return None
        if self.called:
            return (OFF, 0)
        return self.follow(errand, end)


class Step(Strand):
    def __init__(self, statement, above):
        Strand.__init__(self, statement, above)
        self.asked = None

    def begin(self, errand):
        self.asked = errand.ask(self, self.statement[1], errand.worth(self.statement[2]))
        return None

    def answered(self, errand, how, x):
        if how == HAS_DONE:
            errand.variables[self.statement[3]] = x
            self.remember(errand, x)
        if self.called:
            return (OFF, 0)
        return (WELL, 0) if how == HAS_DONE else (FAILED, x)

    def remember(self, errand, x):
        back = self.statement[4]
        if back != 0:
            self.deal.pile.append((errand.count_done(), back - 1, x))

    def give_way(self, errand):
        errand.call_off_ask(self.asked)
        return None


class Waiting(Strand):
    def __init__(self, statement, above):
        Strand.__init__(self, statement, above)
        self.timer = None

    def begin(self, errand):
        self.timer = errand.set_timer(self, errand.worth(self.statement[1]))
        return None

    def fired(self, errand):
        return (WELL, 0)

    def give_way(self, errand):
        errand.stop_timer(self.timer)
        return (OFF, 0)


class Listening(Strand):
    def begin(self, errand):
        return None

    def listeners(self):
        return [self]


class Loop(Strand):
    # Its statement never ends well at once, so this goes no deeper with each round.
    def begin(self, errand):
        if errand.worth(self.statement[1]) == 0:
            return (WELL, 0)
        return errand.begin(self.statement[2], self)

    def follow(self, errand, end):
        return self.begin(errand) if end[0] == WELL else end


class Beside(Strand):
    def __init__(self, statement, above):
        Strand.__init__(self, statement, above)
        self.failure = None

    def begin(self, errand):
        end = errand.begin(self.statement[1], self)
        if end is not None and end[0] == FAILED:
            return end
        return self.part_ended(errand, errand.begin(self.statement[2], self))

    def part_ended(self, errand, end):
        if end is None:
            return None
        if end[0] == FAILED:
            self.failure = end
            self.call_off_parts(errand)
        if self.parts:
            return None
        if self.called:
            return (OFF, 0)
        return (WELL, 0) if self.failure is None else self.failure


# The first statement, and the last one behind it, as it may come.
class Chain(Strand):
    def __init__(self, statement, above):
        Strand.__init__(self, statement, above)
        self.in_last = False

    def begin(self, errand):
        return self.part_ended(errand, errand.begin(self.statement[-2], self))

    def follow(self, errand, end):
        return end if self.in_last else self.behind_first(errand, end)

    def begin_last(self, errand):
        self.in_last = True
        return errand.begin(self.statement[-1], self)


class Sequence(Chain):
    def behind_first(self, errand, end):
        return self.begin_last(errand) if end[0] == WELL else end


class Catch(Chain):
    def behind_first(self, errand, end):
        if end[0] != FAILED:
            return end
        errand.variables[self.statement[1]] = end[1]
        return self.begin_last(errand)


class Limit(Chain):
    def __init__(self, statement, above):
        Chain.__init__(self, statement, above)
        # The timer that runs: none before it's bidden, and none once it has fired or been stopped.
        self.timer = None

    def begin(self, errand):
        ticks = errand.worth(self.statement[1])
        end = errand.begin(self.statement[-2], self)
        if end is None:
            self.timer = errand.set_timer(self, ticks)
        return end

    def fired(self, errand):
        self.timer = None
        return self.part_ended(errand, self.call_off_parts(errand))

    def behind_first(self, errand, end):
        if self.timer is None:
            return self.begin_last(errand)
        self.stop_own_timer(errand)
        return end

    def give_way(self, errand):
        self.stop_own_timer(errand)
        return self.call_off_parts(errand)

    def stop_own_timer(self, errand):
        if self.timer is not None:
            errand.stop_timer(self.timer)
            self.timer = None


class Deal(Strand):
    def __init__(self, statement, above):
        Strand.__init__(self, statement, above)
        self.outer = self.deal
        self.deal = self
        # What was done and may be put back: when (as a rising number), by what work, the answer.
        self.pile = []
        # How it ends behind the last that's put back; None while its statement runs.
        self.last_end = None

    def begin(self, errand):
        return self.part_ended(errand, errand.begin(self.statement[1], self))

    def part_ended(self, errand, end):
        if end is None:
            return None
        if end[0] == WELL:
            self.hand_over_pile()
            return end
        self.last_end = end
        return self.put_back(errand)

    # Steps of the deal around may have been done in between, so the piles are merged by when.
    def hand_over_pile(self):
        if self.outer is not None:
            self.outer.pile = sorted(self.outer.pile + self.pile)

    def put_back(self, errand):
        if not self.pile:
            return self.last_end
        errand.ask(self, self.pile[-1][1], self.pile[-1][2])
        return None

    def answered(self, errand, how, x):
        if how == HAS_DONE:
            self.pile.pop()
        return self.put_back(errand)

    def give_way(self, errand):
        if self.last_end is not None:
            self.last_end = (OFF, 0)
            return None
        return self.part_ended(errand, self.call_off_parts(errand))


def strand_of(statement, above):
    kind = statement[0]
    if kind == STEP:
        return Step(statement, above)
    if kind == LISTEN:
        return Listening(statement, above)
    if kind == THEN:
        return Sequence(statement, above)
    if kind == LOOP:
        return Loop(statement, above)
    if kind == BESIDE:
        return Beside(statement, above)
    if kind == LIMIT:
        return Limit(statement, above)
    if kind == CATCH:
        return Catch(statement, above)
    if kind == DEAL:
        return Deal(statement, above)
    return Waiting(statement, above)
