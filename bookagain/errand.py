"""The calls: what a text writes, and where a book ceases to fit it."""

from bookagain.at_once import check_loops
from bookagain.book import read_happenings, read_pages
from bookagain.going import Errand
from bookagain.reading import read_text
from bookagain.refusals import CouldNotHappen, LoopMustWait, Malformed


def writes(x, text, h):
    try:
        statement = read_text(text)
        happenings = read_happenings(h)
        check_loops(statement)
        return told_book(written_pages(Errand(statement, x), happenings))
    except Malformed:
        return [-22]
    except LoopMustWait:
        return [-33]
    except CouldNotHappen:
        return [-16]


def fits(x, text, h, sizes, bids):
    try:
        statement = read_text(text)
        happenings = read_happenings(h)
        pages = read_pages(happenings, sizes, bids)
        check_loops(statement)
    except Malformed:
        return [-22]
    except LoopMustWait:
        return [-33]
    fitting = fitting_pages(Errand(statement, x), happenings, pages)
    return [-6] if fitting == len(pages) else [fitting]


def written_pages(errand, happenings):
    pages = []
    for three in [None] + happenings:
        page = errand.go_page(three, None)
        if page is None:
            raise CouldNotHappen()
        pages.append(page)
    return pages


def told_book(pages):
    told = [len(page) for page in pages]
    for page in pages:
        for four in page:
            told.extend(four)
    return [len(told)] + told


# How many pages fit ahead of the first that doesn't.
def fitting_pages(errand, happenings, pages):
    fitting = 0
    for three, page in zip([None] + happenings, pages):
        if errand.go_page(three, page) != page:
            break
        fitting += 1
    return fitting
