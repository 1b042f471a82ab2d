"""The longest and the deepest that may be handed in is answered, by all calls."""

from bookagain.errand import fits, meant, next_of, open_of, sound, stands, writes
from helper import BookCase, WHOLE
from helper import num, var
from helper import nothing, put, step, wait, listen, send, fail, then, choice, loop, beside, limit, catch, deal, change
from helper import done, failed, never, fired, word, off
from helper import ask, timer, stop, call_off, taken, told, ended_well, ended_failed, ended_off, sizes_of, bids_of, joined


def nothings(count):
    """So many statements 0 in one, in few levels: 2 * count - 1 numbers."""
    if count == 1:
        return nothing()
    return then(nothings(count // 2), nothings(count - count // 2))


def nested(levels, around, inmost):
    for level in range(levels):
        inmost = around(inmost)
    return inmost


class Longest(BookCase):
    """160 numbers, 24 levels, sixty happenings, two hundred bids."""
    THRICE = then(listen(0, 1), send(num(1), 1, var(1)), send(num(2), 2, num(2)), send(num(3), 3, num(3)))
    LIMITS = nested(17, lambda inner: limit(num(9), inner, nothing()), loop(num(1), THRICE))
    CHANGES = [change(n, nothing(), nothing()) for n in (5, 6, 7)]
    FIRST = [taken(5), taken(6), taken(7)] + [timer(9)] * 17
    WORDS = [word(0, WHOLE - 1 - i) for i in range(60)]
    PAGES = [FIRST] + [[told(1, WHOLE - 1 - i, 1), told(2, 2, 2), told(3, 3, 3)] for i in range(60)]
    END = [stop(i) for i in range(19, 2, -1)] + [ended_off()]

    def text(self, pad):
        return then(then(*self.CHANGES, nothings(pad)), self.LIMITS)

    def test_its_measures(self):
        self.assertEqual(len(self.text(25)), 160)
        self.assertEqual((len(joined(self.WORDS)), len(self.PAGES), len(bids_of(self.PAGES))), (180, 61, 800))
        self.assert_refused(0, deal(self.text(5)), [], -22)
        self.assert_refused(0, deal(self.text(25)), [], -22)
        self.assert_refused(0, then(nothing(), self.text(5)), [], -22)
        self.assertEqual(self.answer(writes, 0, self.text(5), [])[:2], [81, 20])

    def test_is_answered_by_all_calls(self):
        text = self.text(25)
        given = (7, text, joined(self.WORDS), sizes_of(self.PAGES), bids_of(self.PAGES))
        self.assert_writes(7, text, self.WORDS, self.PAGES)
        self.assertEqual(self.answer(fits, *given), [-6])
        self.assertEqual(self.answer(meant, *given), [-6])
        self.assertEqual(self.answer(stands, *given), [0, 0, 7, WHOLE - 60] + [0] * 6 + [1, 0])
        self.assertEqual(self.answer(next_of, *given, word(0, 8)), [3] + told(1, 8, 1) + told(2, 2, 2) + told(3, 3, 3))
        self.assertEqual(self.answer(next_of, *given, off()), [18] + joined(self.END))
        self.assertEqual(self.answer(next_of, *given, fired(20)), [-16])
        self.assertEqual(self.answer(sound, *given[2:]), [1])
        self.assertEqual(self.answer(open_of, *given[2:]), [0, 0, 17] + list(range(3, 20)))

    def test_its_last_page_does_not_fit(self):
        text = self.text(25)
        pages = self.PAGES[:60] + [self.PAGES[60][:2] + [told(3, 3, 2)]]
        self.assert_does_not_fit(7, text, self.WORDS, pages, 60)
        self.assert_meant(7, text, self.WORDS, pages, self.PAGES[60])
        self.assert_sound(self.WORDS, pages, 1)
        happened = self.WORDS[:59] + [off()]
        self.assert_meant(7, text, happened, pages, self.END)
        self.assert_sound(happened, pages, 1)
        self.assert_meant(7, text, self.WORDS[:59] + [fired(2)], pages, -16)
        self.assert_sound(self.WORDS[:59] + [fired(2)], pages, 0)
        self.assert_sound(self.WORDS[:59] + [fired(3)], pages, 1)

    def test_a_book_longer_than_may_be_handed_in_is_written(self):
        many = then(*[send(num(1), 1, num(i)) for i in range(5)])
        text = then(wait(num(3)), loop(num(1), then(listen(0, 1), many)))
        words = [word(0, 1)] * 59
        page = [told(1, i, 1) for i in range(5)] * 59
        self.assert_writes(0, text, words + [fired(0)], [[timer(3)]] + [[]] * 59 + [page])
        self.assert_next(0, text, words, [[timer(3)]] + [[]] * 59, fired(0), page)


class Deepest(BookCase):
    """24 levels of each statement around a step, which has its expression on the last."""
    STEP = step(1, var(0), 1)

    def assert_deep(self, around, first_page, *later):
        text = nested(22, around, self.STEP)
        too_deep = nested(23, around, self.STEP)
        self.assertLessEqual(len(too_deep), 160)
        self.assert_refused(0, too_deep, [], -22)
        self.check(5, text, first_page, *later)

    def test_7(self):
        for around in (lambda inner: then(inner, nothing()), lambda inner: then(nothing(), inner)):
            self.assert_deep(around, [ask(1, 5)], (done(0, 7), [ended_well()]))
            self.assert_deep(around, [ask(1, 5)], (failed(0, 7), [ended_failed(7)]))
            self.assert_deep(around, [ask(1, 5)], (off(), [call_off(0)]), (never(0), [ended_off()]))

    def test_8_and_14(self):
        self.assert_deep(lambda inner: choice(num(1), inner, nothing()), [ask(1, 5)], (done(0, 7), [ended_well()]))
        self.assert_deep(lambda inner: choice(num(0), nothing(), inner), [ask(1, 5)], (failed(0, 7), [ended_failed(7)]))
        self.assert_deep(lambda inner: change(3, inner, nothing()), [taken(3)] * 22 + [ask(1, 5)],
                         (done(22, 7), [ended_well()]))
        text = nested(22, lambda inner: change(3, nothing(), inner), self.STEP)
        self.assert_writes(5, text, [], [[taken(3), ended_well()]])
        self.assert_fits(5, text, [done(0, 7)], [[ask(1, 5)], [ended_well()]], -6)

    def test_9(self):
        text = nested(11, lambda inner: loop(var(0), then(wait(num(4)), inner)), put(0, num(0)))
        self.assert_refused(0, deal(text), [], -22)
        later = [(fired(i), [timer(4)]) for i in range(10)]
        self.check(2, text, [timer(4)], *later, (fired(10), [ended_well()]))
        self.check(2, text, [timer(4)], *later, (off(), [stop(10), ended_off()]))

    def test_10(self):
        for around in (lambda inner: beside(inner, nothing()), lambda inner: beside(nothing(), inner)):
            self.assert_deep(around, [ask(1, 5)], (failed(0, 7), [ended_failed(7)]))
            self.assert_deep(around, [ask(1, 5)], (off(), [call_off(0)]), (done(0, 7), [ended_off()]))
        deep = nested(22, lambda inner: beside(inner, listen(0, 2)), self.STEP)
        self.check(5, deep, [ask(1, 5)], (failed(0, 7), [ended_failed(7)]))
        self.assert_stands(5, deep, [], [[ask(1, 5)]], (0, 0), [5], 22)
        self.assert_stands(5, deep, [word(0, 3)] * 22, [[ask(1, 5)]] + [[]] * 22, (0, 0), [5, 0, 3])

    def test_11(self):
        first_page = [ask(1, 5)] + [timer(9)] * 22
        around = lambda inner: limit(num(9), inner, nothing())
        self.assert_deep(around, first_page, (done(0, 7), [stop(i) for i in range(1, 23)] + [ended_well()]))
        self.assert_deep(around, first_page, (fired(22), [stop(i) for i in range(21, 0, -1)] + [call_off(0)]),
                         (never(0), [ended_well()]))
        self.assert_deep(around, first_page, (fired(1), [call_off(0)]),
                         (off(), [stop(i) for i in range(22, 1, -1)]), (failed(0, 7), [ended_off()]))

    def test_12(self):
        self.assert_deep(lambda inner: catch(2, inner, fail(var(2))), [ask(1, 5)], (failed(0, 7), [ended_failed(7)]))
        self.assert_deep(lambda inner: catch(2, fail(num(3)), inner), [ask(1, 5)], (done(0, 7), [ended_well()]))

    def test_13(self):
        self.assert_deep(deal, [ask(1, 5)], (failed(0, 7), [ended_failed(7)]))
        text = nested(19, deal, then(step(1, var(0), 1, 4), step(1, var(0), 1, 5), fail(num(9))))
        self.check(5, text, [ask(1, 5)], (done(0, 7), [ask(1, 5)]), (done(1, 8), [ask(4, 8)]), (failed(2, 0), [ask(4, 8)]),
                   (done(3, 0), [ask(3, 7)]), (done(4, 0), [ended_failed(9)]))
        handed_over = then(nested(19, deal, then(step(1, var(0), 1, 4), step(1, var(0), 1, 5))), fail(num(9)))
        self.check(5, handed_over, [ask(1, 5)], (done(0, 7), [ask(1, 5)]), (done(1, 8), [ask(4, 8)]),
                   (done(2, 0), [ask(3, 7)]), (done(3, 0), [ended_failed(9)]))

    def test_expressions(self):
        for kind, wanted in ((2, 23), (3, 1), (4, 1), (5, 1), (6, 1)):
            expression = nested(22, lambda inner: [kind] + inner + num(0 if kind == 3 else 1), num(1))
            self.check(0, fail(expression), [ended_failed(wanted)])
            self.assert_refused(0, deal(fail(expression)), [], -22)


class Widest(BookCase):
    def test_as_many_steps_as_a_text_holds(self):
        """22 steps side by side, all called off, all done, all put back."""
        text = step(0, var(0), 0, 1)
        for k in range(1, 22):
            text = beside(text, step(k % 8, var(0), 0, k % 8 + 1))
        self.assertEqual(len(text), 153)
        asks = [ask(k % 8, 5) for k in range(22)]
        calls = [call_off(i) for i in range(22)]
        later = [(off(), calls)] + [(done(i, i + 100), []) for i in range(21)]
        later.append((done(21, 121), [ask(5, 121)]))
        bid = 44
        for i in range(20, -1, -1):
            later.append((done(bid, 0), [ask(i % 8, i + 100)]))
            bid += 1
        later.append((done(bid, 0), [ended_off()]))
        happened = [pair[0] for pair in later]
        pages = [asks] + [pair[1] for pair in later]
        self.assert_writes(5, text, happened, pages)
        self.assert_fits(5, text, happened, pages, -6)
        self.assert_sound(happened, pages, 1)
        self.assert_open(happened, pages, [], [], [])
        self.assert_stands(5, text, happened, pages, (3, 0), [121])
        for count in range(len(later)):
            self.assert_next(5, text, happened[:count], pages[:count + 1], happened[count], pages[count + 1])
        self.assert_open(happened[:1], pages[:2], list(range(22)), list(range(22)), [])
        self.assert_open(happened[:11], pages[:12], list(range(10, 22)), list(range(10, 22)), [])
        self.assert_open(happened[:23], pages[:24], [44], [], [])
