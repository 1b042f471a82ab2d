"""An errand as it goes: what it holds, what it bids, and what may happen to it."""

from bookagain.codes import ASSIGN, BID_ASK, BID_CALL_OFF, BID_CHANGE, BID_END, BID_SEND, BID_STOP, BID_TIMER
from bookagain.codes import CHANGE, CHOICE, DEAL, FAIL, FAILED, GOES_ON, NOTHING, SEND, WELL
from bookagain.codes import HAS_CALLED_OFF, HAS_FIRED, HAS_WORD
from bookagain.outstanding import Outstanding
from bookagain.refusals import CouldNotHappen
from bookagain.strands import Deal, strand_of
from bookagain.worth import worth_of


class Errand(Outstanding):
    def __init__(self, statement, x):
        self.variables = [x, 0, 0, 0, 0, 0, 0, 0]
        self.bids = []
        self.page_start = 0
        # What the book tells of this page; None where the page is written anew.
        self.told_page = None
        # By the number of its bid, who waits for each unanswered ask and each timer that runs.
        self.asks = {}
        self.timers = {}
        self.called_off_asks = {}
        self.words = []
        self.steps_done = 0
        self.whole = Deal((DEAL, statement), None)
        self.final_end = None

    # The bids of one page, as that happens, or (None) as it begins; None if it couldn't happen.
    def go_page(self, three, told_page):
        self.page_start = len(self.bids)
        self.told_page = told_page
        if three is None:
            self.go_on(self.whole, self.whole.begin(self))
        elif self.may_come(three):
            self.happen(three)
        else:
            return None
        self.hear_words()
        return self.bids[self.page_start:]

    # A page that no book tells.
    def write_page(self, three):
        page = self.go_page(three, None)
        if page is None:
            raise CouldNotHappen()
        return page

    # Twelve numbers: how it ended and with what, the variables, how many listen, how many words aren't heard.
    def told_standing(self):
        end = (GOES_ON, 0) if self.final_end is None else self.final_end
        return list(end) + self.variables + [len(self.whole.listeners()), len(self.words)]

    def is_over(self):
        return self.final_end is not None

    def was_called_off(self):
        return self.whole.called

    def happen(self, three):
        kind = three[0]
        number = three[1]
        if kind == HAS_CALLED_OFF:
            self.go_on(self.whole, self.whole.call_off(self))
        elif kind == HAS_WORD:
            self.words.append((number, three[2]))
        elif kind == HAS_FIRED:
            strand = self.timers.pop(number)
            self.go_on(strand, strand.fired(self))
        else:
            strand = self.asks.pop(number)
            self.go_on(strand, strand.answered(self, kind, three[2]))

    # When a strand has ended, what's around it goes on, from within outwards.
    def go_on(self, strand, end):
        while end is not None and strand.above is not None:
            above = strand.above
            above.parts.remove(strand)
            end = above.part_ended(self, end)
            strand = above
        if end is not None:
            self.final_end = end
            self.bid(BID_END, end[0], end[1])

    def hear_words(self):
        heard = self.first_heard()
        while heard is not None:
            strand = heard[0]
            word = heard[1]
            self.words.remove(word)
            self.variables[strand.statement[2]] = word[1]
            self.go_on(strand, (WELL, 0))
            heard = self.first_heard()

    def first_heard(self):
        for strand in self.whole.listeners():
            for word in self.words:
                if word[0] == strand.statement[1]:
                    return (strand, word)
        return None

    # How it ended, where it has ended at once; else None, and it waits as the last part of above.
    def begin(self, statement, above):
        kind = statement[0]
        if kind in (NOTHING, ASSIGN, SEND, FAIL):
            return self.do(statement)
        if kind == CHOICE:
            chosen = statement[3] if self.worth(statement[1]) == 0 else statement[2]
            return self.begin(chosen, above)
        if kind == CHANGE:
            return self.begin(self.changed(statement), above)
        strand = strand_of(statement, above)
        above.parts.append(strand)
        end = strand.begin(self)
        if end is not None:
            above.parts.remove(strand)
        return end

    def do(self, statement):
        kind = statement[0]
        if kind == FAIL:
            return (FAILED, self.worth(statement[1]))
        if kind == ASSIGN:
            self.variables[statement[1]] = self.worth(statement[2])
        elif kind == SEND:
            self.bid(BID_SEND, self.worth(statement[1]), self.worth(statement[3]), statement[2])
        return (WELL, 0)

    def changed(self, statement):
        if not self.takes_change(statement[1]):
            return statement[3]
        self.bid(BID_CHANGE, statement[1])
        return statement[2]

    def takes_change(self, change):
        if self.told_page is None:
            return True
        at = len(self.bids) - self.page_start
        return at < len(self.told_page) and self.told_page[at] == (BID_CHANGE, change, 0, 0)

    def worth(self, expression):
        return worth_of(expression, self.variables)

    def bid(self, kind, first, second=0, third=0):
        self.bids.append((kind, first, second, third))
        return len(self.bids) - 1

    def ask(self, strand, work, x):
        number = self.bid(BID_ASK, work, x)
        self.asks[number] = strand
        return number

    def call_off_ask(self, number):
        self.called_off_asks[number] = True
        self.bid(BID_CALL_OFF, number)

    def set_timer(self, strand, ticks):
        number = self.bid(BID_TIMER, ticks)
        self.timers[number] = strand
        return number

    def stop_timer(self, number):
        self.timers.pop(number)
        self.bid(BID_STOP, number)

    def count_done(self):
        self.steps_done += 1
        return self.steps_done
