"""What a book tells by itself, whatever text it may be of."""

from bookagain.codes import BID_ASK, BID_CALL_OFF, BID_END, BID_STOP, BID_TIMER
from bookagain.codes import HAS_CALLED_OFF, HAS_DONE, HAS_FAILED, HAS_FIRED, HAS_NEVER_DONE
from bookagain.outstanding import Outstanding


class Alone(Outstanding):
    def __init__(self, book):
        self.happened = [three for three, page in book if three is not None]
        self.bids = []
        for three, page in book:
            self.bids.extend(page)
        # By the numbers of their bids, rising.
        self.asks = [number for number in self.bids_of_kind(BID_ASK) if not self.is_answered(number)]
        self.called_off_asks = [number for number in self.asks if (BID_CALL_OFF, number, 0, 0) in self.bids]
        self.timers = [number for number in self.bids_of_kind(BID_TIMER) if self.still_runs(number)]

    def bids_of_kind(self, kind):
        return [number for number, four in enumerate(self.bids) if four[0] == kind]

    def is_answered(self, number):
        answers = [three for three in self.happened if three[0] in (HAS_DONE, HAS_FAILED, HAS_NEVER_DONE)]
        return number in [three[1] for three in answers]

    def still_runs(self, number):
        return (BID_STOP, number, 0, 0) not in self.bids and (HAS_FIRED, number, 0) not in self.happened

    def is_over(self):
        return self.bids_of_kind(BID_END) != []

    def was_called_off(self):
        return (HAS_CALLED_OFF, 0, 0) in self.happened


def is_sound(book):
    return all([Alone(book[:at]).may_come(book[at][0]) for at in range(1, len(book))])
