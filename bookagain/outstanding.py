"""What's outstanding, and by that what may come: alike for an errand as it goes and for a book alone."""

from bookagain.codes import HAS_CALLED_OFF, HAS_FIRED, HAS_NEVER_DONE, HAS_WORD

KINDS_OF_WORDS = 4


# Each that stands on this holds asks (unanswered), called_off_asks and timers (that run), by the numbers of their
# bids, and answers is_over and was_called_off.
class Outstanding:
    def may_come(self, three):
        kind = three[0]
        number = three[1]
        if self.is_over():
            return False
        if kind == HAS_CALLED_OFF:
            return not self.was_called_off()
        if kind == HAS_WORD:
            return number < KINDS_OF_WORDS
        if kind == HAS_FIRED:
            return number in self.timers
        if kind == HAS_NEVER_DONE:
            return number in self.asks and number in self.called_off_asks
        return number in self.asks
