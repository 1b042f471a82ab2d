"""Short names for what texts and books are made of, and the checks that every book goes through."""

import unittest

from bookagain.errand import fits, meant, next_of, open_of, sound, stands, writes

WHOLE = 2 ** 32
GOES_ON = (0, 0)
WELL = (1, 0)
OFF = (3, 0)


# Expressions.

def num(n):
    return [0, n]


def var(v):
    return [1, v]


def plus(a, b):
    return [2] + a + b


def less_by(a, b):
    return [3] + a + b


def times(a, b):
    return [4] + a + b


def is_less(a, b):
    return [5] + a + b


def alike(a, b):
    return [6] + a + b


# Statements.

def nothing():
    return [0]


def put(v, e):
    return [1, v] + e


def step(k, e, v, b=0):
    return [2, k] + e + [v, b]


def wait(e):
    return [3] + e


def listen(c, v):
    return [4, c, v]


def send(m, c, e):
    return [5] + m + [c] + e


def fail(e):
    return [6] + e


def then(first, *others):
    return [7] + first + then(*others) if others else first


def choice(e, a, b):
    return [8] + e + a + b


def loop(e, a):
    return [9] + e + a


def beside(a, b):
    return [10] + a + b


def limit(e, a, b):
    return [11] + e + a + b


def catch(v, a, b):
    return [12, v] + a + b


def deal(a):
    return [13] + a


def change(n, a, b):
    return [14, n] + a + b


# What happens.

def done(i, x):
    return [0, i, x]


def failed(i, x):
    return [1, i, x]


def never(i):
    return [2, i, 0]


def fired(i):
    return [3, i, 0]


def word(c, x):
    return [4, c, x]


def off():
    return [5, 0, 0]


# Bids.

def ask(k, x):
    return [0, k, x, 0]


def timer(t):
    return [1, t, 0, 0]


def stop(i):
    return [2, i, 0, 0]


def call_off(i):
    return [3, i, 0, 0]


def taken(n):
    return [4, n, 0, 0]


def told(m, x, c):
    return [5, m, x, c]


def ended_well():
    return [6, 1, 0, 0]


def ended_failed(x):
    return [6, 2, x, 0]


def ended_off():
    return [6, 3, 0, 0]


def joined(rows):
    return [number for row in rows for number in row]


def sizes_of(pages):
    return [len(page) for page in pages]


def bids_of(pages):
    return joined(joined(pages))


def threes_of(h):
    return [h[at:at + 3] for at in range(0, len(h), 3)]


def rows_of(told):
    """The rows that are told one behind the other, each as how many and then these."""
    rows = []
    while told:
        rows.append(told[1:told[0] + 1])
        told = told[told[0] + 1:]
    return rows


def with_page(pages, at, page):
    return pages[:at] + [page] + pages[at + 1:]


def changed_pages(pages, at):
    """The book with its page `at` changed in one place, in every way but one that mends itself."""
    page = pages[at]
    for i in range(len(page)):
        yield with_page(pages, at, page[:i] + page[i + 1:])
        for k in range(4):
            other = list(page[i])
            other[k] = other[k] + 1 if k > 0 else (other[k] + 1) % 7
            yield with_page(pages, at, page[:i] + [other] + page[i + 1:])
        if i > 0 and page[i - 1] != page[i]:
            yield with_page(pages, at, page[:i - 1] + [page[i], page[i - 1]] + page[i + 1:])
    for i in range(len(page) + 1):
        yield with_page(pages, at, page[:i] + [ask(7, 77)] + page[i:])
        yield with_page(pages, at, page[:i] + [ended_well()] + page[i:])
    if page:
        yield with_page(pages, at, [])
    for other in range(at + 1, len(pages)):
        if page:
            moved = with_page(pages, at, page[:-1])
            yield with_page(moved, other, page[-1:] + pages[other])
        if pages[other]:
            moved = with_page(pages, at, page + pages[other][:1])
            yield with_page(moved, other, pages[other][1:])


class BookCase(unittest.TestCase):
    def answer(self, call, *given):
        """What the call answers; it leaves what it's given as it was, and answers alike again."""
        kept = [list(one) if isinstance(one, list) else one for one in given]
        answer = call(*given)
        self.assertEqual(list(given), kept)
        self.assertEqual(call(*given), answer)
        self.assertTrue(all(isinstance(one, int) and not isinstance(one, bool) for one in answer))
        return answer

    def assert_writes(self, x, text, happenings, pages):
        told_pages = sizes_of(pages) + bids_of(pages)
        wanted = [len(told_pages)] + told_pages
        self.assertEqual(self.answer(writes, x, text, joined(happenings)), wanted)

    def assert_fits(self, x, text, happenings, pages, wanted):
        given = (x, text, joined(happenings), sizes_of(pages), bids_of(pages))
        self.assertEqual(self.answer(fits, *given), [wanted], given)

    def assert_refused(self, x, text, happenings, number):
        self.assertEqual(self.answer(writes, x, text, joined(happenings)), [number], (text, happenings))

    def assert_meant(self, x, text, happenings, pages, wanted):
        """`wanted` is a page, or the number alone."""
        given = (x, text, joined(happenings), sizes_of(pages), bids_of(pages))
        told_page = [wanted] if isinstance(wanted, int) else [len(wanted)] + joined(wanted)
        self.assertEqual(self.answer(meant, *given), told_page, given)

    def assert_stands(self, x, text, happenings, pages, end, held, listening=0, unheard=0):
        """`held` is what the first variables hold; there's 0 in all behind them."""
        given = (x, text, joined(happenings), sizes_of(pages), bids_of(pages))
        wanted = list(end) + held + [0] * (8 - len(held)) + [listening, unheard]
        self.assertEqual(self.answer(stands, *given), wanted, given)

    def assert_next(self, x, text, happenings, pages, e, wanted):
        """`wanted` is a page, or the number alone."""
        given = (x, text, joined(happenings), sizes_of(pages), bids_of(pages), e)
        told_page = [wanted] if isinstance(wanted, int) else [len(wanted)] + joined(wanted)
        self.assertEqual(self.answer(next_of, *given), told_page, given)

    def assert_sound(self, happenings, pages, wanted):
        given = (joined(happenings), sizes_of(pages), bids_of(pages))
        self.assertEqual(self.answer(sound, *given), [wanted], given)

    def assert_open(self, happenings, pages, asks, called_off, timers):
        given = (joined(happenings), sizes_of(pages), bids_of(pages))
        wanted = [len(asks)] + asks + [len(called_off)] + called_off + [len(timers)] + timers
        self.assertEqual(self.answer(open_of, *given), wanted, given)

    def assert_alone_tells(self, x, text, h, sizes, bids):
        """Of a book that fits, the book alone tells what's open, what may come, whether it's over."""
        asks, called_off, timers = rows_of(open_of(h, sizes, bids))
        over = stands(x, text, h, sizes, bids)[0] != 0
        self.assertEqual(6 in bids[::4], over)
        self.assertFalse(over and (asks or timers))
        may_come = {4: list(range(4)), 5: [0] if [5, 0, 0] not in threes_of(h) else []}
        may_come.update({0: asks, 1: asks, 2: called_off, 3: timers})
        numbers = list(range(len(bids) // 4 + 2)) + [4]
        for e in [[kind, i, 0] for kind in range(5) for i in numbers] + [[5, 0, 0]]:
            may = not over and e[1] in may_come[e[0]]
            self.assertEqual(next_of(x, text, h, sizes, bids, e) != [-16], may, (x, text, h, sizes, bids, e))
            if len(h) < 180:
                self.assertEqual(sound(h + e, sizes + [0], bids), [1 if may else 0], (h, sizes, bids, e))

    def assert_does_not_fit(self, x, text, happenings, pages, at):
        """It doesn't fit from page `at` on, as fits, stands and next_of tell it."""
        self.assert_fits(x, text, happenings, pages, at)
        given = (x, text, joined(happenings), sizes_of(pages), bids_of(pages))
        self.assertEqual(self.answer(stands, *given), [-34], given)
        self.assert_next(x, text, happenings, pages, word(0, 1), -34)

    def check(self, x, text, first_page, *later):
        """`later` are pairs: what happened, and the page by it. What is written is just that; it fits,
        and so does all that's ahead of any page, which is sound and has that page next; changed at any
        page it ceases to fit there, where that page was meant. What comes behind its last pages, the book
        alone tells."""
        happenings = [pair[0] for pair in later]
        pages = [first_page] + [pair[1] for pair in later]
        self.assert_writes(x, text, happenings, pages)
        self.assert_fits(x, text, happenings, pages, -6)
        for count in range(1, len(pages) + 1)[-3:]:
            self.assert_alone_tells(x, text, joined(happenings[:count - 1]), sizes_of(pages[:count]), bids_of(pages[:count]))
        for at in range(len(pages)):
            self.assert_fits(x, text, happenings[:at], pages[:at + 1], -6)
            self.assert_meant(x, text, happenings[:at], pages[:at + 1], -6)
            self.assert_sound(happenings[:at], pages[:at + 1], 1)
            if at > 0:
                self.assert_next(x, text, happenings[:at - 1], pages[:at], happenings[at - 1], pages[at])
            for changed in changed_pages(pages, at):
                self.assert_does_not_fit(x, text, happenings, changed, at)
                self.assert_fits(x, text, happenings[:at], changed[:at + 1], at)
                self.assert_meant(x, text, happenings, changed, pages[at])
