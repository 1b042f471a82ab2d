"""What the text makes anew where a book ceases to fit it."""

from helper import BookCase, WHOLE
from helper import num, var, plus, less_by
from helper import nothing, put, step, wait, listen, send, fail, then, loop, beside, limit, catch, deal, change
from helper import done, failed, never, fired, word, off
from helper import ask, timer, stop, call_off, taken, told, ended_well, ended_failed, ended_off

NEW = told(1, 1, 1)
OLD = told(2, 2, 2)
OTHER = ask(7, 77)


def new_or_old(n):
    return change(n, send(num(1), 1, num(1)), send(num(2), 2, num(2)))


class Pages(BookCase):
    TEXT = then(step(1, var(0), 1, 4), limit(num(9), step(2, plus(var(0), var(1)), 2), fail(num(8))))
    HAPPENED = [done(0, 30), fired(2), never(1), done(4, 0)]
    PAGES = [[ask(1, 5)], [ask(2, 35), timer(9)], [call_off(1)], [ask(3, 30)], [ended_failed(8)]]

    def test_a_book_that_fits(self):
        for count in range(5):
            self.assert_meant(5, self.TEXT, self.HAPPENED[:count], self.PAGES[:count + 1], -6)

    def test_the_first_page(self):
        for page in ([], [ask(1, 6)], [ask(2, 5)], [ask(1, 5), ask(1, 5)], [ended_well()], [OTHER] * 9):
            self.assert_meant(5, self.TEXT, [], [page], self.PAGES[0])
            self.assert_meant(5, self.TEXT, self.HAPPENED, [page] + self.PAGES[1:], self.PAGES[0])

    def test_the_first_page_by_x(self):
        self.assert_meant(6, self.TEXT, self.HAPPENED, self.PAGES, [ask(1, 6)])
        self.assert_meant(WHOLE - 1, self.TEXT, self.HAPPENED, self.PAGES, [ask(1, WHOLE - 1)])

    def test_a_later_page(self):
        for at in range(1, 5):
            for page in ([], [OTHER], self.PAGES[at] + [OTHER], self.PAGES[at - 1]):
                pages = self.PAGES[:at] + [page] + self.PAGES[at + 1:]
                self.assert_meant(5, self.TEXT, self.HAPPENED, pages, self.PAGES[at])
                self.assert_meant(5, self.TEXT, self.HAPPENED[:at], pages[:at + 1], self.PAGES[at])

    def test_by_what_happened_there(self):
        self.assert_meant(5, self.TEXT, [done(0, 31)], self.PAGES[:2], [ask(2, 36), timer(9)])
        self.assert_meant(5, self.TEXT, [failed(0, 31)], self.PAGES[:2], [ended_failed(31)])
        self.assert_meant(5, self.TEXT, [off()], self.PAGES[:2], [call_off(0)])
        self.assert_meant(5, self.TEXT, [done(0, 30), done(1, 4)], self.PAGES[:3], [stop(2), ended_well()])
        self.assert_meant(5, self.TEXT, [done(0, 30), failed(1, 4)], self.PAGES[:3], [stop(2), ask(3, 30)])
        self.assert_meant(5, self.TEXT, [done(0, 30), off()], self.PAGES[:3], [stop(2), call_off(1)])

    def test_the_numbers_follow_those_of_the_pages_ahead(self):
        text = beside(wait(num(3)), then(step(1, num(1), 1), limit(num(9), wait(num(4)), nothing()), fail(num(5))))
        pages = [[timer(3), ask(1, 1)], [timer(4), timer(9)], [OTHER]]
        self.assert_meant(0, text, [done(1, 0), fired(3)], pages, [stop(2), stop(0), ended_failed(5)])
        self.assert_meant(0, text, [done(1, 0), off()], pages, [stop(0), stop(3), stop(2), ended_off()])

    def test_no_bid(self):
        text = beside(step(1, num(1), 1), then(listen(0, 2), step(2, num(2), 2)))
        pages = [[ask(1, 1)], [OTHER]]
        for happening in (done(0, 3), word(1, 3), word(3, 3)):
            self.assert_meant(0, text, [happening], pages, [])
        self.assert_meant(0, listen(0, 1), [], [[OTHER]], [])
        self.assert_meant(0, listen(0, 1), [word(1, 1)], [[], [ended_well()]], [])

    def test_the_first_of_two_that_do_not_fit(self):
        for first in range(5):
            for second in range(first + 1, 5):
                pages = list(self.PAGES)
                pages[first] = [OTHER]
                pages[second] = [OTHER]
                self.assert_meant(5, self.TEXT, self.HAPPENED, pages, self.PAGES[first])

    def test_what_could_not_happen_behind_it(self):
        self.assert_meant(5, self.TEXT, [done(9, 9)], [[OTHER], []], self.PAGES[0])
        self.assert_meant(5, self.TEXT, [done(0, 30), done(0, 30)], [self.PAGES[0], [OTHER], []], self.PAGES[1])

    def test_what_could_not_happen_ahead_of_it(self):
        self.assert_meant(5, self.TEXT, [done(1, 30), done(0, 30)], [self.PAGES[0], [], [OTHER]], -16)

    def test_where_nothing_of_the_wrong_page_is_kept(self):
        text = then(put(1, plus(var(1), num(1))), listen(0, 2), put(1, plus(var(1), num(1))), step(1, var(1), 3, 2),
                    fail(var(1)))
        self.assert_meant(0, text, [], [[OTHER]], [])
        self.assert_meant(0, text, [word(0, 9)], [[], [ask(1, 3)]], [ask(1, 2)])
        self.assert_meant(0, text, [word(0, 9), done(0, 6)], [[], [ask(1, 2)], [ask(1, 7)]], [ask(1, 6)])

    def test_a_word_kept_on_the_pages_ahead(self):
        text = then(wait(num(4)), listen(1, 2), listen(1, 3), send(var(2), 0, var(3)))
        pages = [[timer(4)], [], [], []]
        self.assert_meant(0, text, [word(1, 7), word(1, 8), fired(0)], pages, [told(7, 8, 0), ended_well()])
        self.assert_meant(0, text, [word(1, 7), word(2, 8), fired(0)], pages, -6)
        self.assert_meant(0, text, [word(1, 7), word(2, 8), fired(0)], pages[:3] + [[OTHER]], [])

    def test_a_timer_stopped(self):
        text = limit(num(9), step(1, num(1), 1), nothing())
        pages = [[ask(1, 1), timer(9)], [ended_well()]]
        self.assert_meant(0, text, [done(0, 3)], pages, [stop(1), ended_well()])
        self.assert_meant(0, text, [fired(1)], pages, [call_off(0)])

    def test_what_is_put_back(self):
        text = catch(1, deal(then(step(1, num(1), 2, 5), step(1, num(2), 2, 6), fail(num(9)))), fail(var(1)))
        happened = [done(0, 30), done(1, 31), failed(2, 0), done(3, 0), done(4, 0)]
        pages = [[ask(1, 1)], [ask(1, 2)], [ask(5, 31)], [ask(5, 31)], [ask(4, 30)], [ended_failed(9)]]
        self.assert_meant(0, text, happened, pages, -6)
        for at in range(2, 6):
            self.assert_meant(0, text, happened, pages[:at] + [[]] + pages[at + 1:], pages[at])


class Changes(BookCase):
    def test_each_change_is_taken_on_the_first_page(self):
        text = then(new_or_old(1), new_or_old(2), new_or_old(1))
        wanted = [taken(1), NEW, taken(2), NEW, taken(1), NEW, ended_well()]
        for page in ([], [OLD], [OLD, OLD, OLD], [taken(1), NEW, OLD, OLD], [OLD, OLD, OLD, ended_well(), OTHER],
                     [OLD, taken(2), NEW, taken(1), NEW], [taken(2), NEW]):
            self.assert_meant(0, text, [], [page], wanted)
        self.assert_meant(0, text, [], [[OLD, taken(2), NEW, OLD, ended_well()]], -6)

    def test_each_change_is_taken_on_a_later_page(self):
        text = then(listen(0, 1), new_or_old(1), new_or_old(2))
        wanted = [taken(1), NEW, taken(2), NEW, ended_well()]
        for page in ([], [OLD], [OLD, OLD], [taken(1), OLD], [OLD, OLD, OTHER], [OLD, taken(2), NEW]):
            self.assert_meant(0, text, [word(0, 1)], [[], page], wanted)

    def test_taken_where_the_page_takes_what_was_there_before(self):
        text = then(new_or_old(1), step(1, num(1), 1))
        self.assert_meant(0, text, [], [[OLD, ask(1, 1)]], -6)
        self.assert_meant(0, text, [], [[OLD, ask(1, 2)]], [taken(1), NEW, ask(1, 1)])

    def test_not_taken_on_an_earlier_page(self):
        text = then(change(1, put(1, num(8)), put(1, num(9))), wait(num(4)), new_or_old(1), fail(var(1)))
        self.assert_meant(0, text, [fired(0)], [[timer(4)], []], [taken(1), NEW, ended_failed(9)])
        self.assert_meant(0, text, [fired(1)], [[taken(1), timer(4)], []], [taken(1), NEW, ended_failed(8)])
        self.assert_meant(0, text, [fired(0)], [[timer(4)], [OLD, ended_failed(8)]], [taken(1), NEW, ended_failed(9)])

    def test_what_was_there_before_goes_on(self):
        text = change(3, step(1, num(1), 1), then(wait(num(5)), step(2, num(2), 2), new_or_old(4)))
        self.assert_meant(0, text, [fired(0)], [[timer(5)], []], [ask(2, 2)])
        self.assert_meant(0, text, [fired(0), done(1, 6)], [[timer(5)], [ask(2, 2)], []], [taken(4), NEW, ended_well()])
        self.assert_meant(0, text, [done(0, 1)], [[timer(5)], [ended_well()]], -16)
        self.assert_meant(0, text, [off()], [[timer(5)], []], [stop(0), ended_off()])

    def test_the_numbers_follow_what_was_taken(self):
        text = then(change(1, nothing(), nothing()), limit(num(9), step(1, num(1), 1), nothing()))
        self.assert_meant(0, text, [fired(1)], [[ask(1, 1), timer(9)], []], [call_off(0)])
        self.assert_meant(0, text, [fired(2)], [[taken(1), ask(1, 1), timer(9)], []], [call_off(1)])

    def test_each_round_of_a_loop(self):
        text = loop(num(1), then(listen(0, 1), new_or_old(2), put(2, plus(var(2), num(1)))))
        words = [word(0, x) for x in range(4)]
        pages = [[], [OLD], [taken(2), NEW], [OLD], [OTHER]]
        self.assert_meant(0, text, words, pages, [taken(2), NEW])
        self.assert_meant(0, text, words[:1], [[], [NEW]], [taken(2), NEW])

    def test_a_change_within_a_change(self):
        text = change(1, new_or_old(2), new_or_old(3))
        self.assert_meant(0, text, [], [[taken(3), NEW, OTHER]], [taken(1), taken(2), NEW, ended_well()])

    def test_what_is_meant_fits_in_its_place(self):
        text = then(new_or_old(1), listen(0, 1), new_or_old(2), step(1, less_by(var(1), num(1)), 1))
        self.assert_meant(0, text, [word(0, 5)], [[OLD], [OLD, ask(1, 5)]], [taken(2), NEW, ask(1, 4)])
        self.assert_meant(0, text, [word(0, 5)], [[OLD], [taken(2), NEW, ask(1, 4)]], -6)
