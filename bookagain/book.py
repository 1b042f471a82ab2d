"""The form of a book: what happened, and its pages of bids; and that of what happens next."""

from bookagain.codes import BID_END, HAS_CALLED_OFF, HAS_FIRED, HAS_NEVER_DONE
from bookagain.refusals import Malformed

MOST_HAPPENINGS = 60


def cut(row, width):
    if len(row) % width != 0:
        raise Malformed()
    return [tuple(row[at:at + width]) for at in range(0, len(row), width)]


def is_happening(three):
    if three[0] in (HAS_NEVER_DONE, HAS_FIRED):
        return three[2] == 0
    if three[0] == HAS_CALLED_OFF:
        return three[1] == 0 and three[2] == 0
    return three[0] < HAS_CALLED_OFF


def read_happenings(h):
    happenings = cut(h, 3)
    if len(happenings) > MOST_HAPPENINGS:
        raise Malformed()
    if not all([is_happening(three) for three in happenings]):
        raise Malformed()
    return happenings


def read_one_happening(e):
    happenings = read_happenings(e)
    if len(happenings) != 1:
        raise Malformed()
    return happenings[0]


# Page by page: what happened (None at the first, where it begins), and the bids by that.
def read_book(h, sizes, bids):
    happenings = read_happenings(h)
    return list(zip([None] + happenings, read_pages(happenings, sizes, bids)))


# The bids page by page: one page more than there are happenings.
def read_pages(happenings, sizes, bids):
    fours = cut(bids, 4)
    if len(sizes) != len(happenings) + 1 or sum(sizes) != len(fours):
        raise Malformed()
    if any([four[0] > BID_END for four in fours]):
        raise Malformed()
    pages = []
    start = 0
    for size in sizes:
        pages.append(fours[start:start + size])
        start += size
    return pages
