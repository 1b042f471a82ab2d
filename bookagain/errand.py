"""The calls: what a text writes, how a book fits it and where that leaves the errand, and what the book tells alone."""

from bookagain.again import Again
from bookagain.alone import Alone, is_sound
from bookagain.at_once import check_loops
from bookagain.book import read_book, read_happenings
from bookagain.going import Errand
from bookagain.reading import read_text
from bookagain.refusals import CouldNotHappen, DoesNotFit, LoopMustWait, Malformed


def writes(x, text, h):
    return told_or_refused(lambda: told_book(written_pages(x, text, h)))


def fits(x, text, h, sizes, bids):
    return told_or_refused(lambda: told_fit(Again(x, text, h, sizes, bids)))


def meant(x, text, h, sizes, bids):
    return told_or_refused(lambda: told_meant(Again(x, text, h, sizes, bids)))


def stands(x, text, h, sizes, bids):
    return told_or_refused(lambda: Again(x, text, h, sizes, bids).errand_at_end().told_standing())


def next_of(x, text, h, sizes, bids, e):
    return told_or_refused(lambda: told_page(Again(x, text, h, sizes, bids).next_page(e)))


def sound(h, sizes, bids):
    return told_or_refused(lambda: [1 if is_sound(read_book(h, sizes, bids)) else 0])


def open_of(h, sizes, bids):
    return told_or_refused(lambda: told_outstanding(Alone(read_book(h, sizes, bids))))


def told_or_refused(make_answer):
    try:
        return make_answer()
    except Malformed:
        return [-22]
    except LoopMustWait:
        return [-33]
    except CouldNotHappen:
        return [-16]
    except DoesNotFit:
        return [-34]


def written_pages(x, text, h):
    statement = read_text(text)
    happenings = read_happenings(h)
    check_loops(statement)
    errand = Errand(statement, x)
    pages = []
    for three in [None] + happenings:
        pages.append(errand.write_page(three))
    return pages


def told_fit(again):
    return [-6] if again.all_fits() else [again.fitting]


def told_meant(again):
    return [-6] if again.all_fits() else told_page(again.meant_page())


def told_book(pages):
    told = [len(page) for page in pages]
    for page in pages:
        told.extend(numbers_of(page))
    return [len(told)] + told


def told_page(page):
    return [len(page)] + numbers_of(page)


def told_outstanding(alone):
    told = []
    for numbers in (alone.asks, alone.called_off_asks, alone.timers):
        told.append(len(numbers))
        told.extend(numbers)
    return told


def numbers_of(page):
    found = []
    for four in page:
        found.extend(four)
    return found
