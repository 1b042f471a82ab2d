"""What couldn't happen when it did: -16 of writes, of fits the page though its bids would fit, -16 of meant; -16 of
next_of before it did; and that the book isn't sound, where the pages ahead of it are as told."""

from bookagain.errand import next_of, writes
from helper import BookCase, WHOLE
from helper import num, var, nothing, step, wait, listen, fail, then, loop, beside, limit, change
from helper import joined, bids_of, sizes_of
from helper import done, failed, never, fired, word, off
from helper import ask, timer, call_off, stop, taken, ended_well, ended_failed, ended_off

EACH = [done(0, 1), failed(0, 1), never(0), fired(0), word(0, 1), off()]


class Impossible(BookCase):
    # Bids: 0 an ask, 1 a timer, 2 an ask; a word of kind 0 is listened for.
    TEXT = beside(step(1, num(1), 1, 4), beside(limit(num(9), step(2, num(2), 2), wait(num(3))), loop(num(1), listen(0, 3))))

    def assert_could_not(self, text, happened, then_this):
        happenings = happened + [then_this]
        self.assert_refused(0, text, happenings, -16)
        self.assert_refused(0, text, happenings + [word(0, 1)], -16)
        told = self.answer(writes, 0, text, joined(happened))
        count = len(happened) + 1
        pages = self.pages_of(told[1:count + 1], told[count + 1:])
        self.assert_impossible(text, happenings, pages + [[]], count)
        self.assert_impossible(text, happenings + [word(0, 1)], pages + [[], []], count)
        self.assert_impossible(text, happenings, pages + [[ended_well()]], count)
        self.assert_next(0, text, happened, pages, then_this, -16)
        self.assert_sound(happened, pages, 1)
        self.assert_sound(happenings, pages + [[]], 0)
        self.assert_sound(happenings + [word(0, 1)], pages + [[], []], 0)

    def assert_impossible(self, text, happenings, pages, at):
        self.assert_does_not_fit(0, text, happenings, pages, at)
        self.assert_meant(0, text, happenings, pages, -16)

    def assert_could(self, text, happened, then_this):
        self.assertGreater(self.answer(writes, 0, text, joined(happened + [then_this]))[0], 0, then_this)
        told = self.answer(writes, 0, text, joined(happened))
        count = len(happened) + 1
        given = (0, text, joined(happened), told[1:count + 1], told[count + 1:], then_this)
        self.assertGreaterEqual(self.answer(next_of, *given)[0], 0, then_this)
        self.assert_sound(happened + [then_this], self.pages_of(told[1:count + 1], told[count + 1:]) + [[]], 1)

    def pages_of(self, sizes, numbers):
        pages = []
        for size in sizes:
            pages.append([numbers[at:at + 4] for at in range(0, 4 * size, 4)])
            numbers = numbers[4 * size:]
        self.assertEqual(numbers, [])
        return pages

    def test_the_first_page(self):
        pages = [[ask(1, 1), ask(2, 2), timer(9)]]
        self.assertEqual(self.answer(writes, 0, self.TEXT, []), [13] + sizes_of(pages) + bids_of(pages))

    def test_done_and_failed(self):
        for answer in (done, failed):
            self.assert_could(self.TEXT, [], answer(0, 7))
            for i in (2, 3, 4, WHOLE - 1):
                self.assert_could_not(self.TEXT, [], answer(i, 7))

    def test_answered_twice(self):
        for first in (done(1, 7), failed(1, 7)):
            for answer in (done(1, 7), failed(1, 7), never(1)):
                self.assert_could_not(self.TEXT, [first], answer)

    def test_called_off_and_answered_twice(self):
        for first in (done(1, 7), failed(1, 7), never(1)):
            self.assert_could(self.TEXT, [fired(2)], first)
            for answer in (done(1, 7), failed(1, 7), never(1)):
                self.assert_could_not(self.TEXT, [fired(2), first], answer)

    def test_the_bid_of_calling_off_is_no_ask(self):
        for answer in (done(3, 7), failed(3, 7), never(3), fired(3)):
            self.assert_could_not(self.TEXT, [fired(2)], answer)

    def test_never_done_only_when_called_off(self):
        for i in (0, 1, 2, 3, WHOLE - 1):
            self.assert_could_not(self.TEXT, [], never(i))
        self.assert_could_not(self.TEXT, [fired(2)], never(0))
        self.assert_could_not(self.TEXT, [fired(2)], never(2))

    def test_never_done_of_what_is_put_back(self):
        text = then(step(1, num(1), 0, 2), fail(num(9)))
        self.assert_could(text, [done(0, 5)], done(1, 5))
        self.assert_could(text, [done(0, 5)], failed(1, 5))
        self.assert_could_not(text, [done(0, 5)], never(1))
        self.assert_could_not(text, [done(0, 5), off()], never(1))
        self.assert_could_not(text, [done(0, 5), failed(1, 5)], done(1, 5))

    def test_fired(self):
        self.assert_could(self.TEXT, [], fired(2))
        for i in (0, 1, 3, 4, WHOLE - 1):
            self.assert_could_not(self.TEXT, [], fired(i))

    def test_fired_twice_and_fired_when_stopped(self):
        self.assert_could_not(self.TEXT, [fired(2)], fired(2))
        self.assert_could_not(self.TEXT, [done(1, 7)], fired(2))
        self.assert_could_not(self.TEXT, [off()], fired(2))
        self.assert_could_not(self.TEXT, [fired(2), never(1), fired(4)], fired(4))

    def test_words_of_four_kinds(self):
        for c in range(4):
            self.assert_could(self.TEXT, [], word(c, 7))
        for c in (4, 5, WHOLE - 1):
            self.assert_could_not(self.TEXT, [], word(c, 7))

    def test_called_off_twice(self):
        self.assert_could(self.TEXT, [], off())
        self.assert_could_not(self.TEXT, [off()], off())
        self.assert_could_not(self.TEXT, [off(), word(0, 1)], off())

    def test_behind_the_end(self):
        for each in EACH:
            self.assert_could_not(nothing(), [], each)
            self.assert_could_not(fail(num(3)), [], each)
            self.assert_could_not(step(1, num(1), 1), [done(0, 1)], each)
            self.assert_could_not(step(1, num(1), 1), [failed(0, 1)], each)
            self.assert_could_not(step(1, num(1), 1), [off(), never(0)], each)
            self.assert_could_not(wait(num(1)), [fired(0)], each)
            self.assert_could_not(wait(num(1)), [off()], each)
            self.assert_could_not(listen(0, 1), [word(0, 1)], each)

    def test_only_the_first_is_told(self):
        pages = [[ask(1, 1)], [ended_well()], [], []]
        self.assert_impossible(step(1, num(1), 1), [done(0, 1), done(0, 1), done(9, 9)], pages, 2)
        self.assert_does_not_fit(0, step(1, num(1), 1), [failed(0, 1), done(0, 1), done(9, 9)], pages, 1)
        self.assert_meant(0, step(1, num(1), 1), [failed(0, 1), done(0, 1), done(9, 9)], pages, [ended_failed(1)])

    def test_by_the_pages_ahead_though_the_book_tells_other_bids(self):
        pages = [[ask(1, 1)], [call_off(0), ask(2, 2)], []]
        self.assert_impossible(step(1, num(1), 1), [never(0)], pages[:2], 1)
        self.assert_does_not_fit(0, step(1, num(1), 1), [off(), done(2, 5)], pages, 1)
        self.assert_meant(0, step(1, num(1), 1), [off(), done(2, 5)], pages, [call_off(0)])

    def test_behind_a_change_that_was_not_taken(self):
        text = change(1, step(1, num(1), 1), wait(num(4)))
        for happening in (done(0, 5), failed(0, 5), never(0), fired(1), word(4, 5)):
            self.assert_impossible(text, [happening], [[timer(4)], []], 1)
        self.assert_impossible(text, [fired(1)], [[taken(1), ask(1, 1)], []], 1)
        self.assert_fits(0, text, [fired(0)], [[timer(4)], [ended_well()]], -6)

    def test_what_happened_is_another(self):
        text = beside(step(1, num(1), 1), step(2, num(1), 2))
        pages = [[ask(1, 1), ask(2, 1)], [], [ended_well()]]
        self.assert_fits(0, text, [done(0, 5), done(1, 5)], pages, -6)
        self.assert_fits(0, text, [done(1, 5), done(0, 5)], pages, -6)
        self.assert_fits(0, text, [failed(0, 5), done(1, 5)], pages, 1)
        self.assert_fits(0, text, [done(0, 5), failed(1, 5)], pages, 2)
        self.assert_fits(0, text, [word(0, 5), done(1, 5)], pages, 2)
        self.assert_fits(0, text, [done(0, 5), word(1, 5)], pages, 2)
        called_off = [[ask(1, 1), ask(2, 1)], [call_off(0), call_off(1)], [], [ended_off()]]
        self.assert_fits(0, text, [off(), never(1), never(0)], called_off, -6)
        self.assert_fits(0, text, [off(), never(1), never(1)], called_off, 3)

    def test_answers_are_told_on(self):
        text = then(step(1, num(1), 1), fail(var(1)))
        self.assert_fits(0, text, [done(0, 5)], [[ask(1, 1)], [ended_failed(5)]], -6)
        self.assert_fits(0, text, [done(0, 6)], [[ask(1, 1)], [ended_failed(5)]], 1)
        self.assert_fits(0, text, [failed(0, 5)], [[ask(1, 1)], [ended_failed(5)]], -6)

    def test_another_beginning(self):
        self.assert_fits(4, wait(var(0)), [fired(0)], [[timer(4)], [ended_well()]], -6)
        self.assert_fits(5, wait(var(0)), [fired(0)], [[timer(4)], [ended_well()]], 0)
        self.assert_fits(4, wait(var(0)), [off()], [[timer(4)], [stop(0), ended_off()]], -6)
