"""An errand gone again by its book: how far the book fits, what the text makes there, and what it makes next."""

from bookagain.at_once import check_loops
from bookagain.book import read_book, read_one_happening
from bookagain.going import Errand
from bookagain.reading import read_text
from bookagain.refusals import DoesNotFit


class Again:
    def __init__(self, x, text, h, sizes, bids):
        self.x = x
        self.statement = read_text(text)
        self.book = read_book(h, sizes, bids)
        check_loops(self.statement)
        # How many pages fit ahead of the first that doesn't.
        self.fitting = self.count_fitting()

    def count_fitting(self):
        errand = Errand(self.statement, self.x)
        fitting = 0
        for three, page in self.book:
            if errand.go_page(three, page) != page:
                break
            fitting += 1
        return fitting

    def all_fits(self):
        return self.fitting == len(self.book)

    # Begun over, for the errand that found a page that doesn't fit has gone on by that page already.
    def errand_behind_fitting(self):
        errand = Errand(self.statement, self.x)
        for three, page in self.book[:self.fitting]:
            errand.go_page(three, page)
        return errand

    # What the text makes anew, where the first page is that doesn't fit.
    def meant_page(self):
        return self.errand_behind_fitting().write_page(self.book[self.fitting][0])

    def errand_at_end(self):
        if not self.all_fits():
            raise DoesNotFit()
        return self.errand_behind_fitting()

    # Looked at in this order: what happens next may be told wrongly, and only then the book not fit.
    def next_page(self, e):
        three = read_one_happening(e)
        return self.errand_at_end().write_page(three)
