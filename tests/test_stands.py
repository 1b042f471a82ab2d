"""Where an errand stands that was gone again: how it ended, what it holds, who listens, which words aren't heard."""

from helper import BookCase, WHOLE, GOES_ON, WELL, OFF
from helper import num, var, plus
from helper import nothing, put, step, wait, listen, send, fail, then, loop, beside, limit, catch, deal, change
from helper import done, failed, never, fired, word, off
from helper import ask, timer, stop, call_off, taken, told, ended_well, ended_failed, ended_off


class BooksThatDoNotFit(BookCase):
    TEXT = beside(step(1, num(1), 1), then(listen(0, 2), step(2, num(2), 2)))
    HAPPENED = [word(0, 7), done(0, 8), done(1, 9)]
    PAGES = [[ask(1, 1)], [ask(2, 2)], [], [ended_well()]]

    def test_fits(self):
        self.assert_stands(0, self.TEXT, [], self.PAGES[:1], GOES_ON, [0], 1)
        self.assert_stands(0, self.TEXT, self.HAPPENED[:1], self.PAGES[:2], GOES_ON, [0, 0, 7])
        self.assert_stands(0, self.TEXT, self.HAPPENED[:2], self.PAGES[:3], GOES_ON, [0, 8, 7])
        self.assert_stands(0, self.TEXT, self.HAPPENED, self.PAGES, WELL, [0, 8, 9])

    def assert_parts(self, at, page):
        self.assert_does_not_fit(0, self.TEXT, self.HAPPENED, self.PAGES[:at] + [page] + self.PAGES[at + 1:], at)

    def test_bids_that_part(self):
        self.assert_parts(0, [ask(1, 2)])
        self.assert_parts(1, [ask(3, 2)])
        self.assert_parts(3, [ended_off()])

    def test_one_bid_too_few(self):
        for at in (0, 1, 3):
            self.assert_parts(at, [])

    def test_one_bid_too_many(self):
        for at in range(4):
            self.assert_parts(at, self.PAGES[at] + [told(1, 1, 1)])
            self.assert_parts(at, [told(1, 1, 1)] + self.PAGES[at])

    def test_something_that_could_not_happen(self):
        for happening in (done(2, 9), failed(0, 9), never(1), fired(0), word(4, 9)):
            self.assert_does_not_fit(0, self.TEXT, self.HAPPENED[:2] + [happening], self.PAGES, 3)
        self.assert_does_not_fit(0, self.TEXT, self.HAPPENED + [word(0, 7)], self.PAGES + [[]], 4)


class Ends(BookCase):
    def test_goes_on(self):
        self.assert_stands(0, wait(num(4)), [], [[timer(4)]], GOES_ON, [])
        self.assert_stands(5, listen(0, 1), [], [[]], GOES_ON, [5], 1)
        self.assert_stands(5, step(1, num(1), 1), [off()], [[ask(1, 1)], [call_off(0)]], GOES_ON, [5])

    def test_well(self):
        self.assert_stands(5, nothing(), [], [[ended_well()]], WELL, [5])
        self.assert_stands(5, wait(num(4)), [fired(0)], [[timer(4)], [ended_well()]], WELL, [5])

    def test_failed(self):
        for x in (0, 7, WHOLE - 1):
            self.assert_stands(x, fail(var(0)), [], [[ended_failed(x)]], (2, x), [x])
            self.assert_stands(0, step(1, num(1), 1), [failed(0, x)], [[ask(1, 1)], [ended_failed(x)]], (2, x), [])

    def test_failed_behind_what_is_put_back(self):
        text = then(step(1, num(1), 1, 3), fail(num(9)))
        pages = [[ask(1, 1)], [ask(2, 6)], [ask(2, 6)], [ended_failed(9)]]
        happened = [done(0, 6), failed(1, 8), done(2, 4)]
        for count in range(1, 3):
            self.assert_stands(0, text, happened[:count], pages[:count + 1], GOES_ON, [0, 6])
        self.assert_stands(0, text, happened, pages, (2, 9), [0, 6])

    def test_off(self):
        self.assert_stands(5, wait(num(4)), [off()], [[timer(4)], [stop(0), ended_off()]], OFF, [5])
        self.assert_stands(5, listen(0, 1), [off()], [[], [ended_off()]], OFF, [5])
        text = step(1, num(1), 1)
        pages = [[ask(1, 1)], [call_off(0)], [ended_off()]]
        self.assert_stands(5, text, [off(), done(0, 7)], pages, OFF, [5, 7])
        self.assert_stands(5, text, [off(), failed(0, 7)], pages, OFF, [5])
        self.assert_stands(5, text, [off(), never(0)], pages, OFF, [5])

    def test_off_though_it_failed(self):
        text = beside(step(1, num(1), 1), step(2, num(2), 2))
        pages = [[ask(1, 1), ask(2, 2)], [call_off(1)], [], [ended_off()]]
        self.assert_stands(0, text, [failed(0, 7), off(), never(1)], pages, OFF, [])


class Variables(BookCase):
    def test_x(self):
        for x in (0, 1, WHOLE - 1):
            self.assert_stands(x, nothing(), [], [[ended_well()]], WELL, [x])

    def test_each_by_1(self):
        for v in range(8):
            self.assert_stands(5, put(v, num(6)), [], [[ended_well()]], WELL, [5 if k == 0 else 0 for k in range(v)] + [6])
        text = then(put(7, num(17)), put(6, num(16)), put(5, num(15)), put(4, num(14)), put(3, num(13)), put(2, num(12)),
                    put(1, num(11)), put(0, num(10)))
        self.assert_stands(5, text, [], [[ended_well()]], WELL, list(range(10, 18)))

    def test_each_by_an_answer(self):
        for v in range(8):
            held = [5 if k == 0 else 0 for k in range(v)]
            pages = [[ask(1, 1)], [ended_well()]]
            self.assert_stands(5, step(1, num(1), v), [done(0, WHOLE - 1)], pages, WELL, held + [WHOLE - 1])

    def test_each_by_a_word(self):
        for v in range(8):
            held = [5 if k == 0 else 0 for k in range(v)]
            self.assert_stands(5, listen(2, v), [word(2, 9)], [[], [ended_well()]], WELL, held + [9])

    def test_each_by_12(self):
        for v in range(8):
            held = [5 if k == 0 else 0 for k in range(v)]
            self.assert_stands(5, catch(v, fail(num(9)), nothing()), [], [[ended_well()]], WELL, held + [9])
            self.assert_stands(5, catch(v, nothing(), nothing()), [], [[ended_well()]], WELL, [5])

    def test_12_is_not_by_what_was_called_off(self):
        text = limit(num(4), catch(1, step(1, num(1), 2), nothing()), nothing())
        pages = [[ask(1, 1), timer(4)], [call_off(0)], [ended_well()]]
        self.assert_stands(0, text, [fired(1), failed(0, 7)], pages, WELL, [])
        self.assert_stands(0, text, [fired(1), done(0, 7)], pages, WELL, [0, 0, 7])

    def test_a_failed_step_sets_none(self):
        text = catch(3, step(1, num(1), 1), wait(num(4)))
        self.assert_stands(0, text, [failed(0, 7)], [[ask(1, 1)], [timer(4)]], GOES_ON, [0, 0, 0, 7])

    def test_the_answer_of_what_is_put_back_sets_none(self):
        text = then(step(1, num(1), 0, 3), fail(num(9)))
        pages = [[ask(1, 1)], [ask(2, 6)], [ended_failed(9)]]
        self.assert_stands(0, text, [done(0, 6), done(1, 8)], pages, (2, 9), [6])

    def test_by_the_change_that_was_taken(self):
        text = then(change(1, put(1, num(8)), put(2, num(9))), wait(num(4)), put(3, plus(var(1), var(2))))
        self.assert_stands(0, text, [fired(1)], [[taken(1), timer(4)], [ended_well()]], WELL, [0, 8, 0, 8])
        self.assert_stands(0, text, [fired(0)], [[timer(4)], [ended_well()]], WELL, [0, 0, 9, 9])


class Listeners(BookCase):
    def assert_listening(self, text, first_page, listening, *later):
        happened = [pair[0] for pair in later]
        pages = [first_page] + [pair[1] for pair in later]
        self.assert_stands(0, text, happened, pages, GOES_ON, [], listening)

    def test_none(self):
        self.assert_listening(wait(num(4)), [timer(4)], 0)
        self.assert_listening(then(wait(num(4)), listen(0, 1)), [timer(4)], 0)

    def test_side_by_side(self):
        self.assert_listening(beside(listen(0, 1), listen(1, 2)), [], 2)
        self.assert_listening(beside(listen(0, 1), listen(0, 1)), [], 2)
        self.assert_listening(beside(listen(0, 1), wait(num(4))), [timer(4)], 1)
        self.assert_listening(beside(beside(listen(0, 1), listen(3, 2)), beside(wait(num(4)), listen(2, 3))), [timer(4)], 3)

    def test_one_has_heard(self):
        text = beside(listen(0, 1), beside(listen(0, 2), listen(0, 3)))
        self.assert_stands(0, text, [], [[]], GOES_ON, [], 3)
        self.assert_stands(0, text, [word(0, 7)], [[], []], GOES_ON, [0, 7], 2)
        self.assert_stands(0, text, [word(0, 7), word(0, 8)], [[], [], []], GOES_ON, [0, 7, 8], 1)
        self.assert_stands(0, text, [word(0, 7), word(0, 8), word(0, 9)], [[], [], [], [ended_well()]], WELL, [0, 7, 8, 9])

    def test_within_each(self):
        self.assert_listening(then(listen(0, 1), listen(0, 2)), [], 1)
        self.assert_listening(then(nothing(), listen(0, 2)), [], 1)
        self.assert_listening(loop(num(1), listen(0, 1)), [], 1)
        self.assert_listening(limit(num(4), listen(0, 1), listen(0, 2)), [timer(4)], 1)
        self.assert_listening(limit(num(4), beside(listen(0, 1), listen(0, 1)), listen(0, 2)), [timer(4)], 2)
        self.assert_listening(catch(1, listen(0, 1), listen(0, 2)), [], 1)
        self.assert_listening(deal(listen(0, 1)), [], 1)
        self.assert_listening(deal(beside(listen(0, 1), deal(listen(0, 2)))), [], 2)
        self.assert_listening(change(1, listen(0, 1), nothing()), [taken(1)], 1)
        self.assert_listening(change(1, nothing(), listen(0, 1)), [], 1)

    def test_in_the_second(self):
        self.assert_listening(limit(num(4), listen(0, 1), beside(listen(0, 2), listen(1, 3))), [timer(4)], 2, (fired(0), []))
        self.assert_stands(0, catch(1, fail(num(9)), listen(0, 1)), [], [[]], GOES_ON, [0, 9], 1)

    def test_none_behind_calling_off(self):
        text = beside(step(1, num(1), 1), beside(listen(0, 2), limit(num(4), listen(0, 3), listen(0, 4))))
        first_page = [ask(1, 1), timer(4)]
        self.assert_listening(text, first_page, 2)
        self.assert_listening(text, first_page, 0, (off(), [call_off(0), stop(1)]))

    def test_none_beside_one_that_failed(self):
        text = beside(beside(step(1, num(1), 1), listen(0, 2)), step(2, num(2), 3))
        first_page = [ask(1, 1), ask(2, 2)]
        self.assert_listening(text, first_page, 1)
        self.assert_listening(text, first_page, 0, (failed(1, 7), [call_off(0)]))

    def test_none_while_putting_back(self):
        text = beside(deal(then(step(1, num(1), 0, 3), beside(listen(0, 2), listen(1, 3)))), listen(2, 4))
        self.assert_stands(0, text, [done(0, 6)], [[ask(1, 1)], []], GOES_ON, [6], 3)
        self.assert_stands(0, text, [done(0, 6), off()], [[ask(1, 1)], [], [ask(2, 6)]], GOES_ON, [6], 0)

    def test_none_behind_the_end(self):
        for end, last in ((fail(num(9)), [ended_failed(9)]), (fail(num(0)), [ended_failed(0)])):
            text = beside(listen(0, 1), then(wait(num(4)), end))
            self.assert_stands(0, text, [fired(0)], [[timer(4)], last], (2, last[0][2]), [])
        self.assert_stands(0, beside(listen(0, 1), listen(1, 2)), [off()], [[], [ended_off()]], OFF, [])
        self.assert_stands(0, listen(0, 1), [word(0, 7)], [[], [ended_well()]], WELL, [0, 7])


class Words(BookCase):
    def assert_unheard(self, text, first_page, happened, held, listening, unheard):
        pages = [first_page] + [[]] * len(happened)
        self.assert_stands(0, text, happened, pages, GOES_ON, held, listening, unheard)

    def test_nobody_listens(self):
        words = [word(c % 4, 7) for c in range(59)]
        for count in (0, 1, 2, 4, 59):
            self.assert_unheard(wait(num(4)), [timer(4)], words[:count], [], 0, count)

    def test_nobody_listens_for_its_kind(self):
        self.assert_unheard(listen(0, 1), [], [word(1, 7)], [], 1, 1)
        self.assert_unheard(listen(0, 1), [], [word(1, 7), word(2, 7), word(1, 7)], [], 1, 3)

    def test_two_of_one_kind_and_one_listener(self):
        text = then(listen(0, 1), wait(num(4)), listen(0, 2), listen(0, 3))
        pages = [[], [timer(4)], [], [], []]
        happened = [word(0, 7), word(0, 8), word(0, 9), fired(0)]
        self.assert_stands(0, text, happened[:1], pages[:2], GOES_ON, [0, 7])
        self.assert_stands(0, text, happened[:2], pages[:3], GOES_ON, [0, 7], 0, 1)
        self.assert_stands(0, text, happened[:3], pages[:4], GOES_ON, [0, 7], 0, 2)
        self.assert_stands(0, text, happened, [[], [timer(4)], [], [], [ended_well()]], WELL, [0, 7, 8, 9])

    def test_heard_once_somebody_listens(self):
        text = then(wait(num(4)), listen(1, 1), listen(1, 2))
        pages = [[timer(4)], [], [], []]
        self.assert_stands(0, text, [word(1, 7), word(2, 8)], pages[:3], GOES_ON, [], 0, 2)
        self.assert_stands(0, text, [word(1, 7), word(2, 8), fired(0)], pages, GOES_ON, [0, 7], 1, 1)

    def test_alike_words_are_kept_each(self):
        text = then(wait(num(4)), listen(1, 1), wait(num(5)))
        pages = [[timer(4)], [], [], [], [timer(5)]]
        self.assert_stands(0, text, [word(1, 7), word(1, 7), word(1, 7), fired(0)], pages, GOES_ON, [0, 7], 0, 2)

    def test_kept_at_the_end(self):
        self.assert_stands(0, wait(num(4)), [word(1, 7), fired(0)], [[timer(4)], [], [ended_well()]], WELL, [], 0, 1)
        text = then(listen(0, 1), listen(0, 2), fail(num(0)))
        pages = [[], [], [], [ended_failed(0)]]
        self.assert_stands(0, text, [word(3, 6), word(0, 7), word(0, 8)], pages, (2, 0), [0, 7, 8], 0, 1)
        self.assert_stands(0, listen(0, 1), [word(1, 7), word(1, 8), off()], [[], [], [], [ended_off()]], OFF, [], 0, 2)

    def test_kept_though_called_off(self):
        text = then(step(1, num(1), 1), listen(0, 2))
        pages = [[ask(1, 1)], [call_off(0)], [], [ended_off()]]
        self.assert_stands(0, text, [off(), word(0, 7)], pages[:3], GOES_ON, [], 0, 1)
        self.assert_stands(0, text, [off(), word(0, 7), done(0, 8)], pages, OFF, [0, 8], 0, 1)

    def test_told_to_others_is_no_word_of_its_own(self):
        text = then(send(num(1), 0, num(7)), listen(0, 1))
        self.assert_stands(0, text, [], [[told(1, 7, 0)]], GOES_ON, [], 1)
