"""What a text makes by what happens next, behind a book that fits it."""

from helper import BookCase, WHOLE
from helper import num, var, plus
from helper import nothing, put, step, wait, listen, send, fail, then, loop, beside, limit, catch, deal, change
from helper import done, failed, never, fired, word, off
from helper import ask, timer, stop, call_off, taken, told, ended_well, ended_failed, ended_off

NEW = told(1, 1, 1)
OLD = told(2, 2, 2)
EACH = [done(0, 1), failed(0, 1), never(0), fired(0), word(0, 1), off()]


def new_or_old(n):
    return change(n, send(num(1), 1, num(1)), send(num(2), 2, num(2)))


class Pages(BookCase):
    TEXT = then(step(1, var(0), 1, 4), limit(num(9), step(2, plus(var(0), var(1)), 2), fail(num(8))))
    PAGES = [[ask(1, 5)], [ask(2, 35), timer(9)]]

    def test_by_each_kind_of_happening(self):
        first = self.PAGES[:1]
        self.assert_next(5, self.TEXT, [], first, done(0, 30), self.PAGES[1])
        self.assert_next(5, self.TEXT, [], first, failed(0, 31), [ended_failed(31)])
        self.assert_next(5, self.TEXT, [], first, off(), [call_off(0)])
        self.assert_next(5, self.TEXT, [off()], first + [[call_off(0)]], never(0), [ended_off()])
        self.assert_next(5, self.TEXT, [done(0, 30)], self.PAGES, fired(2), [call_off(1)])
        self.assert_next(0, then(listen(2, 1), fail(var(1))), [], [[]], word(2, 7), [ended_failed(7)])

    def test_by_x_and_by_the_answer(self):
        for x in (0, 5, WHOLE - 1):
            for answer in (0, 1, 30, WHOLE - 1):
                page = [ask(2, (x + answer) % WHOLE), timer(9)]
                self.assert_next(x, self.TEXT, [], [[ask(1, x)]], done(0, answer), page)
                self.assert_next(x, self.TEXT, [], [[ask(1, x)]], failed(0, answer), [ended_failed(answer)])

    def test_the_numbers_follow_those_of_the_book(self):
        self.assert_next(5, self.TEXT, [done(0, 30)], self.PAGES, off(), [stop(2), call_off(1)])
        happened = [done(0, 30), fired(2)]
        pages = self.PAGES + [[call_off(1)]]
        self.assert_next(5, self.TEXT, happened, pages, never(1), [ask(3, 30)])
        self.assert_next(5, self.TEXT, happened + [never(1)], pages + [[ask(3, 30)]], failed(4, 6), [ask(3, 30)])
        self.assert_next(5, self.TEXT, happened + [never(1)], pages + [[ask(3, 30)]], done(4, 6), [ended_failed(8)])
        text = then(wait(num(3)), limit(num(4), limit(num(5), listen(0, 1), nothing()), nothing()))
        self.assert_next(0, text, [fired(0)], [[timer(3)], [timer(5), timer(4)]], off(), [stop(2), stop(1), ended_off()])

    def test_no_bid(self):
        text = beside(step(1, num(1), 1), then(listen(0, 2), step(2, num(2), 2)))
        for happening in (done(0, 3), word(1, 3), word(3, 3)):
            self.assert_next(0, text, [], [[ask(1, 1)]], happening, [])
        self.assert_next(0, text, [off()], [[ask(1, 1)], [call_off(0)]], word(0, 3), [])
        self.assert_next(0, loop(num(1), listen(0, 1)), [], [[]], word(0, 3), [])

    def test_by_the_book_that_fits_and_not_by_its_last_page_alone(self):
        text = loop(num(1), then(listen(0, 1), put(2, plus(var(2), var(1))), send(num(3), 2, var(2))))
        pages = [[]]
        happened = []
        for count in range(1, 9):
            self.assert_next(0, text, happened, pages, word(0, 10), [told(3, 10 * count, 2)])
            happened.append(word(0, 10))
            pages.append([told(3, 10 * count, 2)])

    def test_what_is_put_back(self):
        text = then(step(1, num(1), 0, 2), step(1, num(2), 0, 3), fail(num(9)))
        pages = [[ask(1, 1)], [ask(1, 2)], [ask(2, 12)]]
        happened = [done(0, 11), done(1, 12)]
        self.assert_next(0, text, happened, pages, done(2, 70), [ask(1, 11)])
        self.assert_next(0, text, happened, pages, failed(2, 70), [ask(2, 12)])
        self.assert_next(0, text, happened, pages, off(), [])

    def test_a_limits_timer(self):
        text = limit(num(9), step(1, num(1), 1), step(2, num(2), 2))
        pages = [[ask(1, 1), timer(9)]]
        self.assert_next(0, text, [], pages, done(0, 3), [stop(1), ended_well()])
        self.assert_next(0, text, [], pages, failed(0, 3), [stop(1), ended_failed(3)])
        self.assert_next(0, text, [], pages, fired(1), [call_off(0)])
        self.assert_next(0, text, [], pages, off(), [stop(1), call_off(0)])
        self.assert_next(0, text, [fired(1)], pages + [[call_off(0)]], done(0, 3), [ask(2, 2)])


class Words(BookCase):
    TEXT = then(wait(num(4)), listen(1, 2), listen(1, 3), send(var(2), 0, var(3)), fail(num(6)))

    def test_kept_in_the_book_till_somebody_listens(self):
        pages = [[timer(4)], [], []]
        heard = [told(7, 8, 0), ended_failed(6)]
        self.assert_next(0, self.TEXT, [word(1, 7), word(1, 8)], pages, fired(0), heard)
        self.assert_next(0, self.TEXT, [word(1, 7), word(2, 8)], pages, fired(0), [])
        self.assert_next(0, self.TEXT, [word(1, 7), fired(0)], pages, word(1, 8), heard)
        self.assert_next(0, self.TEXT, [word(1, 7), fired(0)], pages, word(2, 8), [])

    def test_the_next_word_is_kept(self):
        for c in range(4):
            self.assert_next(0, self.TEXT, [], [[timer(4)]], word(c, 7), [])
            self.assert_next(0, self.TEXT, [word(1, 6)], [[timer(4)], []], word(c, 7), [])

    def test_two_listen_for_one_kind(self):
        text = beside(then(listen(0, 1), step(1, var(1), 3)), then(listen(0, 2), step(2, var(2), 3)))
        self.assert_next(0, text, [], [[]], word(0, 5), [ask(1, 5)])
        self.assert_next(0, text, [word(0, 5)], [[], [ask(1, 5)]], word(0, 6), [ask(2, 6)])


class Ends(BookCase):
    def test_well(self):
        self.assert_next(0, wait(num(1)), [], [[timer(1)]], fired(0), [ended_well()])
        self.assert_next(0, listen(0, 1), [], [[]], word(0, 0), [ended_well()])

    def test_failed(self):
        for x in (0, 7, WHOLE - 1):
            self.assert_next(0, step(1, num(1), 1), [], [[ask(1, 1)]], failed(0, x), [ended_failed(x)])

    def test_off(self):
        self.assert_next(0, wait(num(1)), [], [[timer(1)]], off(), [stop(0), ended_off()])
        self.assert_next(0, listen(0, 1), [], [[]], off(), [ended_off()])
        for answer in (done(0, 3), failed(0, 3), never(0)):
            self.assert_next(0, step(1, num(1), 1), [off()], [[ask(1, 1)], [call_off(0)]], answer, [ended_off()])


class Changes(BookCase):
    def test_each_change_is_taken(self):
        text = then(listen(0, 1), new_or_old(1), new_or_old(2), new_or_old(1))
        page = [taken(1), NEW, taken(2), NEW, taken(1), NEW, ended_well()]
        self.assert_next(0, text, [], [[]], word(0, 5), page)

    def test_also_where_the_book_did_not_take_it(self):
        text = loop(num(1), then(listen(0, 1), new_or_old(3)))
        words = [word(0, 1), word(0, 2), word(0, 3)]
        for pages in ([[], [OLD]], [[], [taken(3), NEW]], [[], [OLD], [taken(3), NEW]], [[], [OLD], [OLD], [OLD]]):
            self.assert_next(0, text, words[:len(pages) - 1], pages, word(0, 9), [taken(3), NEW])

    def test_what_was_not_taken_in_the_book_is_not_taken_there(self):
        text = then(change(1, put(1, num(8)), put(1, num(9))), wait(num(4)), new_or_old(1), fail(var(1)))
        self.assert_next(0, text, [], [[timer(4)]], fired(0), [taken(1), NEW, ended_failed(9)])
        self.assert_next(0, text, [], [[taken(1), timer(4)]], fired(1), [taken(1), NEW, ended_failed(8)])
        self.assert_next(0, text, [], [[timer(4)]], fired(1), -16)
        self.assert_next(0, text, [], [[taken(1), timer(4)]], fired(0), -16)

    def test_what_was_there_before_goes_on(self):
        text = change(3, step(1, num(1), 1), then(wait(num(5)), step(2, num(2), 2), new_or_old(4)))
        self.assert_next(0, text, [], [[timer(5)]], fired(0), [ask(2, 2)])
        self.assert_next(0, text, [], [[timer(5)]], off(), [stop(0), ended_off()])
        self.assert_next(0, text, [], [[timer(5)]], done(0, 1), -16)
        self.assert_next(0, text, [fired(0)], [[timer(5)], [ask(2, 2)]], done(1, 6), [taken(4), NEW, ended_well()])
        self.assert_next(0, text, [], [[taken(3), ask(1, 1)]], done(1, 6), [ended_well()])

    def test_a_change_within_a_change(self):
        text = then(listen(0, 1), change(1, new_or_old(2), new_or_old(3)))
        self.assert_next(0, text, [], [[]], word(0, 5), [taken(1), taken(2), NEW, ended_well()])


class Refused(BookCase):
    TEXT = beside(step(1, num(1), 1), limit(num(9), step(2, num(2), 2), wait(num(3))))
    PAGES = [[ask(1, 1), ask(2, 2), timer(9)], [call_off(1)], [timer(3)]]
    HAPPENED = [fired(2), never(1)]

    def test_a_book_that_does_not_fit(self):
        for e in EACH + [done(9, 9), word(4, 1)]:
            self.assert_next(0, self.TEXT, [], [[]], e, -34)
            self.assert_next(0, self.TEXT, [], [[ask(1, 1), ask(2, 2), timer(8)]], e, -34)
            self.assert_next(0, self.TEXT, [], [self.PAGES[0] + [ended_well()]], e, -34)
            self.assert_next(0, self.TEXT, self.HAPPENED, self.PAGES[:2] + [[]], e, -34)
            self.assert_next(0, self.TEXT, [fired(1), never(1)], self.PAGES, e, -34)
            self.assert_next(0, self.TEXT, self.HAPPENED + [fired(2)], self.PAGES + [[]], e, -34)

    def assert_now(self, count, could, could_not):
        for e in could:
            page = self.PAGES[count + 1] if self.HAPPENED[count:count + 1] == [e] else []
            self.assert_next(0, self.TEXT, self.HAPPENED[:count], self.PAGES[:count + 1], e, page)
        for e in could_not:
            self.assert_next(0, self.TEXT, self.HAPPENED[:count], self.PAGES[:count + 1], e, -16)

    def test_what_could_not_happen_now(self):
        always_not = [done(9, 1), failed(9, 1), never(9), fired(9), word(4, 1), word(WHOLE - 1, 1), never(0), never(2),
                      fired(0), fired(1), done(2, 1), failed(2, 1), done(3, 1), failed(3, 1), never(3), fired(3)]
        self.assert_now(0, [fired(2), word(0, 1), word(3, 1), done(0, 1)], always_not + [never(1), done(4, 1), fired(4)])
        self.assert_now(1, [never(1), word(0, 1), done(0, 1)], always_not + [fired(2), fired(4)])
        self.assert_now(2, [word(0, 1), done(0, 1)], always_not + [fired(2), never(1), done(1, 1), failed(1, 1), done(4, 1)])

    def test_called_off_twice(self):
        pages = [[ask(1, 1)], [call_off(0)], []]
        text = step(1, num(1), 1)
        self.assert_next(0, text, [off()], pages[:2], off(), -16)
        self.assert_next(0, text, [off(), word(0, 1)], pages, off(), -16)
        self.assert_next(0, text, [word(0, 1)], [[ask(1, 1)], []], off(), [call_off(0)])

    def test_never_done_of_what_is_put_back(self):
        text = deal(then(step(1, num(1), 0, 2), fail(num(9))))
        self.assert_next(0, text, [done(0, 5)], [[ask(1, 1)], [ask(1, 5)]], never(1), -16)
        self.assert_next(0, text, [done(0, 5), off()], [[ask(1, 1)], [ask(1, 5)], []], never(1), -16)

    def test_answered_twice(self):
        text = beside(step(1, num(1), 1), catch(3, step(2, num(2), 2), nothing()))
        for first in (done(1, 5), failed(1, 5)):
            for e in (done(1, 5), failed(1, 5), never(1)):
                self.assert_next(0, text, [first], [[ask(1, 1), ask(2, 2)], []], e, -16)

    def test_behind_the_end(self):
        for e in EACH:
            self.assert_next(0, nothing(), [], [[ended_well()]], e, -16)
            self.assert_next(0, fail(num(3)), [], [[ended_failed(3)]], e, -16)
            self.assert_next(0, step(1, num(1), 1), [done(0, 1)], [[ask(1, 1)], [ended_well()]], e, -16)
            self.assert_next(0, wait(num(1)), [off()], [[timer(1)], [stop(0), ended_off()]], e, -16)
            self.assert_next(0, listen(0, 1), [word(1, 1), word(0, 1)], [[], [], [ended_well()]], e, -16)
