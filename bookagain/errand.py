"""The calls: what a text writes; whether a book fits it, what the text meant, and where the errand stands."""

from bookagain.again import Again
from bookagain.at_once import check_loops
from bookagain.book import read_happenings
from bookagain.going import Errand
from bookagain.reading import read_text
from bookagain.refusals import CouldNotHappen, LoopMustWait, Malformed


def writes(x, text, h):
    try:
        statement = read_text(text)
        happenings = read_happenings(h)
        check_loops(statement)
        return told_book(written_pages(Errand(statement, x), happenings))
    except Malformed:
        return [-22]
    except LoopMustWait:
        return [-33]
    except CouldNotHappen:
        return [-16]


def fits(x, text, h, sizes, bids):
    try:
        again = Again(x, text, h, sizes, bids)
    except Malformed:
        return [-22]
    except LoopMustWait:
        return [-33]
    return [-6] if again.all_fits() else [again.fitting]


def meant(x, text, h, sizes, bids):
    try:
        again = Again(x, text, h, sizes, bids)
        return [-6] if again.all_fits() else told_page(again.meant_page())
    except Malformed:
        return [-22]
    except LoopMustWait:
        return [-33]
    except CouldNotHappen:
        return [-16]


def stands(x, text, h, sizes, bids):
    try:
        again = Again(x, text, h, sizes, bids)
    except Malformed:
        return [-22]
    except LoopMustWait:
        return [-33]
    return again.errand_behind_fitting().told_standing() if again.all_fits() else [-34]


def written_pages(errand, happenings):
    pages = []
    for three in [None] + happenings:
        page = errand.go_page(three, None)
        if page is None:
            raise CouldNotHappen()
        pages.append(page)
    return pages


def told_book(pages):
    told = [len(page) for page in pages]
    for page in pages:
        told.extend(numbers_of(page))
    return [len(told)] + told


def told_page(page):
    return [len(page)] + numbers_of(page)


def numbers_of(page):
    found = []
    for four in page:
        found.extend(four)
    return found
