"""The edges that the document names: words, pairs, limits, piles, calling off, and the end."""

from helper import BookCase
from helper import num, var, plus, less_by
from helper import nothing, put, step, wait, listen, send, fail, then, choice, loop, beside, limit, catch, deal
from helper import done, failed, never, fired, word, off
from helper import ask, timer, stop, call_off, told, ended_well, ended_failed, ended_off


class Words(BookCase):
    def test_kept_till_somebody_listens(self):
        text = then(wait(num(4)), listen(1, 2), fail(var(2)))
        self.check(0, text, [timer(4)], (word(1, 7), []), (word(0, 8), []), (word(1, 9), []),
                   (fired(0), [ended_failed(7)]))

    def test_each_kind_in_its_order(self):
        text = then(wait(num(4)), listen(1, 2), listen(0, 3), listen(1, 4),
                    send(var(2), 0, var(3)), fail(var(4)))
        self.check(0, text, [timer(4)], (word(1, 7), []), (word(0, 8), []), (word(1, 9), []),
                   (fired(0), [told(7, 8, 0), ended_failed(9)]))

    def test_two_of_the_same(self):
        text = then(wait(num(4)), listen(1, 2), listen(1, 3), listen(1, 4), fail(var(4)))
        self.check(0, text, [timer(4)], (word(1, 7), []), (word(1, 7), []), (fired(0), []),
                   (word(1, 5), [ended_failed(5)]))

    def test_two_listen_for_one_kind(self):
        text = beside(then(listen(0, 1), step(1, var(1), 3)), then(listen(0, 2), step(2, var(2), 3)))
        self.check(0, text, [], (word(0, 5), [ask(1, 5)]), (word(0, 6), [ask(2, 6)]),
                   (done(0, 0), []), (done(1, 0), [ended_well()]))

    def test_two_listen_and_both_words_are_there(self):
        text = then(wait(num(4)), beside(then(listen(0, 1), step(1, var(1), 3)), then(listen(0, 2), step(2, var(2), 3))))
        self.check(0, text, [timer(4)], (word(0, 5), []), (word(0, 6), []), (fired(0), [ask(1, 5), ask(2, 6)]))

    def test_the_left_one_hears_the_next_one_too(self):
        left = then(listen(0, 1), listen(0, 2), send(var(1), 1, var(2)))
        right = then(listen(0, 3), send(num(9), 2, var(3)))
        text = then(wait(num(4)), beside(left, right))
        self.check(0, text, [timer(4)], (word(0, 5), []), (word(0, 6), []), (fired(0), [told(5, 6, 1)]),
                   (word(0, 7), [told(9, 7, 2), ended_well()]))

    def test_the_left_one_goes_first_though_its_word_came_later(self):
        left = then(listen(1, 1), step(1, var(1), 3))
        right = then(listen(0, 2), step(2, var(2), 3))
        text = then(wait(num(4)), beside(left, right))
        self.check(0, text, [timer(4)], (word(0, 5), []), (word(1, 6), []), (fired(0), [ask(1, 6), ask(2, 5)]))

    def test_the_right_one_hears_what_the_left_one_does_not_listen_for(self):
        text = beside(then(listen(1, 1), step(1, var(1), 3)), then(listen(0, 2), step(2, var(2), 3)))
        self.check(0, text, [], (word(0, 5), [ask(2, 5)]), (word(0, 8), []), (word(1, 6), [ask(1, 6)]))

    def test_heard_only_when_all_has_gone_on(self):
        text = then(wait(num(4)), catch(7, beside(then(listen(0, 1), step(1, var(1), 3)), fail(num(2))), nothing()),
                    listen(0, 2), fail(var(2)))
        self.check(0, text, [timer(4)], (word(0, 5), []), (fired(0), [ended_failed(5)]))

    def test_one_by_one_in_a_loop(self):
        text = then(wait(num(4)), loop(num(1), then(listen(0, 1), send(num(3), 2, var(1)))))
        self.check(0, text, [timer(4)], (word(0, 5), []), (word(0, 6), []), (fired(0), [told(3, 5, 2), told(3, 6, 2)]),
                   (word(0, 7), [told(3, 7, 2)]), (off(), [ended_off()]))

    def test_sixty_words_kept(self):
        words = [(word(3, x), []) for x in range(59)]
        text = then(wait(num(4)), loop(num(1), then(listen(3, 1), send(num(3), 2, var(1)))))
        self.check(0, text, [timer(4)], *words, (fired(0), [told(3, x, 2) for x in range(59)]))

    def test_sixty_words_heard(self):
        self.check(0, loop(num(1), listen(3, 1)), [], *[(word(3, x), []) for x in range(60)])


class Pairs(BookCase):
    def test_first_fails_at_once(self):
        self.check(0, beside(fail(num(3)), step(1, num(1), 1)), [ended_failed(3)])
        text = beside(then(send(num(1), 1, num(1)), fail(num(3))), step(1, num(1), 1))
        self.check(0, text, [told(1, 1, 1), ended_failed(3)])

    def test_second_fails_at_once(self):
        self.check(0, beside(nothing(), fail(num(3))), [ended_failed(3)])
        self.check(0, beside(wait(num(5)), fail(num(3))), [timer(5), stop(0), ended_failed(3)])
        self.check(0, beside(listen(0, 1), fail(num(3))), [ended_failed(3)])
        text = beside(step(1, num(2), 0), fail(num(4)))
        for answer in (done(0, 9), failed(0, 9), never(0)):
            self.check(0, text, [ask(1, 2), call_off(0)], (answer, [ended_failed(4)]))

    def test_one_ends_well_at_once_the_other_later(self):
        for inner in (then(nothing(), put(1, num(2))), loop(num(0), wait(num(1))), beside(nothing(), nothing()),
                      limit(num(1), nothing(), nothing()), catch(1, nothing(), nothing()), catch(1, fail(num(1)), nothing()),
                      deal(nothing()), choice(num(1), deal(nothing()), nothing())):
            for text in (beside(inner, wait(num(4))), beside(wait(num(4)), inner), beside(then(inner, wait(num(4))), inner)):
                self.check(0, text, [timer(4)], (fired(0), [ended_well()]))
                self.check(0, text, [timer(4)], (off(), [stop(0), ended_off()]))

    def test_first_fails_later(self):
        text = beside(step(1, num(2), 0), step(2, num(3), 1))
        for answer in (done(1, 9), failed(1, 9), never(1)):
            self.check(0, text, [ask(1, 2), ask(2, 3)], (failed(0, 7), [call_off(1)]), (answer, [ended_failed(7)]))

    def test_second_fails_later(self):
        text = beside(step(1, num(2), 0), step(2, num(3), 1))
        for answer in (done(0, 9), failed(0, 9), never(0)):
            self.check(0, text, [ask(1, 2), ask(2, 3)], (failed(1, 7), [call_off(0)]), (answer, [ended_failed(7)]))

    def test_the_other_ended_before(self):
        text = beside(step(1, num(2), 0), step(2, num(3), 1))
        self.check(0, text, [ask(1, 2), ask(2, 3)], (done(0, 7), []), (failed(1, 8), [ended_failed(8)]))
        self.check(0, text, [ask(1, 2), ask(2, 3)], (done(1, 7), []), (failed(0, 8), [ended_failed(8)]))

    def test_the_other_ends_by_being_called_off(self):
        text = beside(wait(num(2)), step(2, num(3), 1))
        self.check(0, text, [timer(2), ask(2, 3)], (failed(1, 7), [stop(0), ended_failed(7)]))

    def test_what_fails_while_it_is_called_off_is_off(self):
        text = catch(3, beside(step(1, num(2), 0), catch(2, step(2, num(3), 1), step(3, num(4), 1))), send(num(1), 1, var(3)))
        self.check(0, text, [ask(1, 2), ask(2, 3)], (failed(0, 7), [call_off(1)]),
                   (failed(1, 8), [told(1, 7, 1), ended_well()]))

    def test_called_off_first_then_second(self):
        text = beside(wait(num(2)), beside(step(1, num(3), 1), wait(num(4))))
        self.check(0, text, [timer(2), ask(1, 3), timer(4)], (off(), [stop(0), call_off(1), stop(2)]),
                   (never(1), [ended_off()]))

    def test_one_failed_and_then_called_off(self):
        text = beside(step(1, num(2), 0), step(2, num(3), 1))
        for answer in (done(1, 9), failed(1, 9), never(1)):
            self.check(0, text, [ask(1, 2), ask(2, 3)], (failed(0, 7), [call_off(1)]), (off(), []), (answer, [ended_off()]))

    def test_what_was_called_off_is_not_called_off_again(self):
        inner = beside(step(1, num(2), 0), step(2, num(3), 1))
        text = beside(inner, step(3, num(4), 1))
        self.check(0, text, [ask(1, 2), ask(2, 3), ask(3, 4)], (failed(0, 7), [call_off(1)]), (failed(2, 8), []),
                   (never(1), [ended_failed(8)]))

    def test_nothing_behind_it_is_begun(self):
        chain = then(wait(num(1)), send(num(1), 1, num(1)))
        self.check(0, beside(step(1, num(2), 0), chain), [ask(1, 2), timer(1)], (failed(0, 7), [stop(1), ended_failed(7)]))
        rounds = loop(num(1), then(step(2, num(3), 1), send(num(1), 1, num(1))))
        self.check(0, beside(step(1, num(2), 0), rounds), [ask(1, 2), ask(2, 3)], (failed(0, 7), [call_off(1)]),
                   (done(1, 0), [ended_failed(7)]))
        again = loop(num(1), step(2, num(3), 1))
        self.check(0, beside(step(1, num(2), 0), again), [ask(1, 2), ask(2, 3)], (failed(0, 7), [call_off(1)]),
                   (done(1, 0), [ended_failed(7)]))

    def test_called_off_in_its_second(self):
        for second in (then(nothing(), step(2, num(3), 1)), catch(5, fail(num(1)), step(2, num(3), 1))):
            self.check(0, beside(step(1, num(2), 0), second), [ask(1, 2), ask(2, 3)], (failed(0, 7), [call_off(1)]),
                       (failed(1, 8), [ended_failed(7)]))

    def test_chosen_is_called_off(self):
        text = beside(step(1, num(2), 0), choice(num(0), nothing(), step(2, num(3), 1)))
        self.check(0, text, [ask(1, 2), ask(2, 3)], (failed(0, 7), [call_off(1)]), (never(1), [ended_failed(7)]))


class Limits(BookCase):
    TEXT = limit(num(9), step(1, num(2), 1), step(2, var(1), 2))

    def test_ended_at_once(self):
        self.check(0, limit(num(9), put(1, num(3)), fail(num(8))), [ended_well()])
        self.check(0, limit(num(9), fail(num(3)), nothing()), [ended_failed(3)])
        self.check(0, then(limit(num(9), nothing(), fail(num(8))), step(1, num(1), 1)), [ask(1, 1)],
                   (done(0, 0), [ended_well()]))

    def test_is_looked_at_first(self):
        self.check(5, limit(var(0), then(put(0, num(7)), wait(var(0))), nothing()), [timer(7), timer(5)],
                   (fired(1), [stop(0), ended_well()]))

    def test_ends_before_the_timer(self):
        text = then(self.TEXT, send(num(1), 1, num(1)))
        self.check(0, text, [ask(1, 2), timer(9)], (done(0, 4), [stop(1), told(1, 1, 1), ended_well()]))

    def test_ends_by_the_timer(self):
        for answer, held in ((done(0, 4), 4), (failed(0, 4), 0), (never(0), 0)):
            self.check(0, self.TEXT, [ask(1, 2), timer(9)], (fired(1), [call_off(0)]), (answer, [ask(2, held)]),
                       (done(3, 0), [ended_well()]))

    def test_is_off_as_the_timer_fires(self):
        self.check(0, limit(num(9), wait(num(5)), send(num(1), 1, num(1))), [timer(5), timer(9)],
                   (fired(1), [stop(0), told(1, 1, 1), ended_well()]))
        self.check(0, limit(num(0), listen(1, 1), fail(num(3))), [timer(0)], (fired(0), [ended_failed(3)]))

    def test_a_word_that_is_there_ends_it_with_its_timer_stopped(self):
        text = then(wait(num(1)), limit(num(9), listen(1, 1), nothing()), fail(var(1)))
        self.check(0, text, [timer(1)], (word(1, 5), []), (fired(0), [timer(9), stop(1), ended_failed(5)]))

    def test_a_stopped_timer_does_not_fire(self):
        text = then(self.TEXT, wait(num(3)))
        self.check(0, text, [ask(1, 2), timer(9)], (done(0, 4), [stop(1), timer(3)]), (fired(3), [ended_well()]))
        self.assert_refused(0, text, [done(0, 4), fired(1)], -16)

    def test_called_off_while_the_timer_runs(self):
        for answer in (done(0, 4), failed(0, 4), never(0)):
            self.check(0, self.TEXT, [ask(1, 2), timer(9)], (off(), [stop(1), call_off(0)]), (answer, [ended_off()]))
        self.check(0, limit(num(9), listen(1, 1), nothing()), [timer(9)], (off(), [stop(0), ended_off()]))

    def test_called_off_when_the_timer_has_fired(self):
        self.check(0, self.TEXT, [ask(1, 2), timer(9)], (fired(1), [call_off(0)]), (off(), []), (never(0), [ended_off()]))

    def test_called_off_in_its_second(self):
        self.check(0, self.TEXT, [ask(1, 2), timer(9)], (fired(1), [call_off(0)]), (done(0, 4), [ask(2, 4)]),
                   (off(), [call_off(3)]), (done(3, 4), [ended_off()]))

    def test_a_pair_that_failed_within_it(self):
        text = limit(num(9), beside(step(1, num(2), 1), step(2, num(3), 2)), send(num(1), 1, num(1)))
        self.check(0, text, [ask(1, 2), ask(2, 3), timer(9)], (failed(0, 7), [call_off(1)]),
                   (never(1), [stop(2), ended_failed(7)]))
        self.check(0, text, [ask(1, 2), ask(2, 3), timer(9)], (failed(0, 7), [call_off(1)]), (fired(2), []),
                   (never(1), [told(1, 1, 1), ended_well()]))

    def test_a_limit_within_a_limit(self):
        text = limit(num(9), limit(num(8), step(1, num(2), 1), nothing()), nothing())
        self.check(0, text, [ask(1, 2), timer(8), timer(9)], (done(0, 4), [stop(1), stop(2), ended_well()]))
        self.check(0, text, [ask(1, 2), timer(8), timer(9)], (fired(2), [stop(1), call_off(0)]), (never(0), [ended_well()]))
        self.check(0, text, [ask(1, 2), timer(8), timer(9)], (fired(1), [call_off(0)]), (fired(2), []),
                   (never(0), [ended_well()]))


class Piles(BookCase):
    THREE = then(step(1, num(1), 0, 2), step(1, num(2), 0, 3), step(1, num(3), 0, 0), fail(num(9)))

    def test_put_back_the_last_first(self):
        self.check(0, self.THREE, [ask(1, 1)], (done(0, 11), [ask(1, 2)]), (done(1, 12), [ask(1, 3)]),
                   (done(2, 13), [ask(2, 12)]), (done(3, 70), [ask(1, 11)]), (done(4, 71), [ended_failed(9)]))

    def test_what_fails_is_asked_anew(self):
        self.check(0, self.THREE, [ask(1, 1)], (done(0, 11), [ask(1, 2)]), (done(1, 12), [ask(1, 3)]),
                   (done(2, 13), [ask(2, 12)]), (failed(3, 70), [ask(2, 12)]), (failed(4, 71), [ask(2, 12)]),
                   (done(5, 0), [ask(1, 11)]), (failed(6, 0), [ask(1, 11)]), (done(7, 0), [ended_failed(9)]))

    def test_a_failed_step_is_not_put_back(self):
        self.check(0, self.THREE, [ask(1, 1)], (done(0, 11), [ask(1, 2)]), (failed(1, 12), [ask(1, 11)]),
                   (done(2, 0), [ended_failed(12)]))

    def test_work_0_and_work_7(self):
        text = then(step(1, num(1), 0, 1), step(1, num(2), 0, 8), fail(num(9)))
        self.check(0, text, [ask(1, 1)], (done(0, 11), [ask(1, 2)]), (done(1, 12), [ask(7, 12)]),
                   (done(2, 0), [ask(0, 11)]), (done(3, 0), [ended_failed(9)]))

    def test_the_answer_of_putting_back_goes_nowhere(self):
        text = catch(5, deal(then(step(1, num(1), 0, 2), fail(var(0)))), fail(plus(var(0), var(5))))
        self.check(0, text, [ask(1, 1)], (done(0, 11), [ask(1, 11)]), (done(1, 50), [ended_failed(22)]))

    def test_well_ended_is_not_put_back(self):
        self.check(0, step(1, num(1), 0, 2), [ask(1, 1)], (done(0, 11), [ended_well()]))

    def test_the_deal_within_puts_back_its_own_alone(self):
        within = deal(then(step(2, num(2), 0, 3), fail(num(7))))
        text = then(step(1, num(1), 0, 2), catch(1, within, step(3, var(1), 0)), fail(num(9)))
        self.check(0, text, [ask(1, 1)], (done(0, 11), [ask(2, 2)]), (done(1, 12), [ask(2, 12)]),
                   (done(2, 0), [ask(3, 7)]), (done(3, 0), [ask(1, 11)]), (done(4, 0), [ended_failed(9)]))

    def test_the_deal_around_puts_back_what_ended_well_within(self):
        within = deal(then(step(2, num(2), 0, 3), deal(step(3, num(3), 0, 4))))
        text = then(step(1, num(1), 0, 2), within, step(1, num(4), 0, 5), fail(num(9)))
        self.check(0, text, [ask(1, 1)], (done(0, 11), [ask(2, 2)]), (done(1, 12), [ask(3, 3)]), (done(2, 13), [ask(1, 4)]),
                   (done(3, 14), [ask(4, 14)]), (done(4, 0), [ask(3, 13)]), (done(5, 0), [ask(2, 12)]),
                   (done(6, 0), [ask(1, 11)]), (done(7, 0), [ended_failed(9)]))

    def test_in_the_order_in_which_steps_were_done(self):
        within = deal(then(step(1, num(1), 0, 2), step(2, num(2), 0, 3)))
        text = beside(within, then(step(3, num(3), 1, 4), listen(0, 1), fail(num(9))))
        self.check(0, text, [ask(1, 1), ask(3, 3)], (done(0, 20), [ask(2, 2)]), (done(1, 21), []), (done(2, 22), []),
                   (word(0, 5), [ask(2, 22)]), (done(3, 0), [ask(3, 21)]), (done(4, 0), [ask(1, 20)]),
                   (done(5, 0), [ended_failed(9)]))

    def test_a_called_off_step_that_is_done_comes_onto_the_pile(self):
        self.check(0, step(1, num(1), 0, 4), [ask(1, 1)], (off(), [call_off(0)]), (done(0, 11), [ask(3, 11)]),
                   (done(2, 0), [ended_off()]))
        for answer in (failed(0, 11), never(0)):
            self.check(0, step(1, num(1), 0, 4), [ask(1, 1)], (off(), [call_off(0)]), (answer, [ended_off()]))
        self.check(0, step(1, num(1), 0, 0), [ask(1, 1)], (off(), [call_off(0)]), (done(0, 11), [ended_off()]))

    def test_a_called_off_step_of_a_deal_that_goes_on(self):
        text = then(limit(num(9), step(1, num(1), 0, 4), nothing()), fail(var(0)))
        self.check(0, text, [ask(1, 1), timer(9)], (fired(1), [call_off(0)]), (done(0, 11), [ask(3, 11)]),
                   (done(3, 0), [ended_failed(11)]))

    def test_the_deal_within_a_limit(self):
        text = limit(num(9), deal(then(step(1, num(1), 0, 4), wait(num(5)))), send(num(1), 1, var(0)))
        self.check(0, text, [ask(1, 1), timer(9)], (done(0, 11), [timer(5)]), (fired(1), [stop(2), ask(3, 11)]),
                   (failed(4, 6), [ask(3, 11)]), (done(5, 0), [told(1, 11, 1), ended_well()]))

    def test_called_off_while_it_puts_back(self):
        first = [ask(1, 1)]
        later = [(done(0, 11), [ask(1, 2)]), (done(1, 12), [ask(1, 3)]), (failed(2, 13), [ask(2, 12)])]
        self.check(0, self.THREE, first, *later, (off(), []), (failed(3, 0), [ask(2, 12)]), (done(4, 0), [ask(1, 11)]),
                   (done(5, 0), [ended_off()]))

    def test_a_deal_within_called_off_while_it_puts_back(self):
        within = deal(then(step(1, num(1), 0, 2), fail(num(7))))
        text = beside(catch(4, within, send(num(1), 1, num(1))), step(3, num(3), 1))
        self.check(0, text, [ask(1, 1), ask(3, 3)], (done(0, 11), [ask(1, 11)]), (failed(1, 8), []),
                   (done(2, 0), [ended_failed(8)]))
        limited = limit(num(9), within, send(num(1), 1, num(1)))
        self.check(0, limited, [ask(1, 1), timer(9)], (done(0, 11), [ask(1, 11)]), (fired(1), []),
                   (done(2, 0), [told(1, 1, 1), ended_well()]))
        self.check(0, limited, [ask(1, 1), timer(9)], (done(0, 11), [ask(1, 11)]), (done(2, 0), [stop(1), ended_failed(7)]))

    def test_puts_back_ahead_of_calling_off_what_stands_to_the_right(self):
        text = beside(deal(then(step(1, num(1), 0, 2), wait(num(5)))), step(3, num(3), 1))
        self.check(0, text, [ask(1, 1), ask(3, 3)], (done(0, 20), [timer(5)]), (off(), [stop(2), ask(1, 20), call_off(1)]),
                   (never(1), []), (done(4, 0), [ended_off()]))

    def test_a_deal_called_off_puts_back_behind_its_last(self):
        text = beside(deal(then(step(1, num(1), 0, 2), step(2, num(2), 0, 3))), step(3, num(3), 1))
        self.check(0, text, [ask(1, 1), ask(3, 3)], (done(0, 20), [ask(2, 2)]), (failed(1, 8), [call_off(2)]),
                   (done(2, 21), [ask(2, 21)]), (done(4, 0), [ask(1, 20)]), (done(5, 0), [ended_failed(8)]))


class Ends(BookCase):
    def test_well(self):
        self.check(0, nothing(), [ended_well()])
        self.check(0, wait(num(1)), [timer(1)], (fired(0), [ended_well()]))

    def test_failed(self):
        self.check(0, fail(num(7)), [ended_failed(7)])
        self.check(0, step(1, num(1), 0), [ask(1, 1)], (failed(0, 0), [ended_failed(0)]))

    def test_off(self):
        self.check(0, wait(num(1)), [timer(1)], (off(), [stop(0), ended_off()]))
        self.check(0, listen(1, 1), [], (off(), [ended_off()]))
        self.check(0, step(1, num(1), 0), [ask(1, 1)], (off(), [call_off(0)]), (never(0), [ended_off()]))

    def test_a_word_behind_calling_off_is_heard_by_nobody(self):
        text = then(step(1, num(1), 0), listen(1, 1))
        self.check(0, text, [ask(1, 1)], (off(), [call_off(0)]), (word(1, 1), []), (done(0, 5), [ended_off()]))

    def test_a_loop_waits_for_its_count(self):
        text = loop(var(0), then(wait(num(1)), put(0, less_by(var(0), num(1)))))
        later = [(fired(i), [timer(1)]) for i in range(59)]
        self.check(60, text, [timer(1)], *later, (fired(59), [ended_well()]))
