"""Each kind of statement and of expression: what is written at a small text, and what fits it."""

from helper import BookCase, WHOLE
from helper import num, var, plus, less_by, times, is_less, alike
from helper import nothing, put, step, wait, listen, send, fail, then, choice, loop, beside, limit, catch, deal, change
from helper import done, failed, fired, word, off
from helper import ask, timer, stop, call_off, taken, told, ended_well, ended_failed


class Expressions(BookCase):
    def assert_worth(self, x, expression, wanted):
        self.check(x, fail(expression), [ended_failed(wanted)])

    def test_0_number(self):
        self.assert_worth(3, num(0), 0)
        self.assert_worth(3, num(41), 41)
        self.assert_worth(3, num(WHOLE - 1), WHOLE - 1)

    def test_1_variable(self):
        self.assert_worth(3, var(0), 3)
        self.assert_worth(WHOLE - 1, var(0), WHOLE - 1)
        for v in range(1, 8):
            self.assert_worth(3, var(v), 0)

    def test_2_sum(self):
        self.assert_worth(3, plus(var(0), num(4)), 7)
        self.assert_worth(3, plus(num(WHOLE - 1), num(0)), WHOLE - 1)
        self.assert_worth(3, plus(num(WHOLE - 1), num(1)), 0)
        self.assert_worth(3, plus(num(WHOLE - 1), num(WHOLE - 1)), WHOLE - 2)

    def test_3_difference(self):
        self.assert_worth(3, less_by(num(9), var(0)), 6)
        self.assert_worth(3, less_by(num(3), var(0)), 0)
        self.assert_worth(3, less_by(num(2), var(0)), 0)
        self.assert_worth(3, less_by(num(0), num(WHOLE - 1)), 0)

    def test_4_product(self):
        self.assert_worth(3, times(var(0), num(4)), 12)
        self.assert_worth(3, times(num(65536), num(65536)), 0)
        self.assert_worth(3, times(num(65536), num(65537)), 65536)
        self.assert_worth(3, times(num(WHOLE - 1), num(WHOLE - 1)), 1)

    def test_5_less(self):
        self.assert_worth(3, is_less(num(2), var(0)), 1)
        self.assert_worth(3, is_less(num(3), var(0)), 0)
        self.assert_worth(3, is_less(num(4), var(0)), 0)

    def test_6_alike(self):
        self.assert_worth(3, alike(num(3), var(0)), 1)
        self.assert_worth(3, alike(num(4), var(0)), 0)
        self.assert_worth(3, alike(num(2), var(0)), 0)

    def test_within_one_another(self):
        self.assert_worth(3, plus(times(var(0), num(5)), less_by(num(9), plus(num(1), num(1)))), 22)
        self.assert_worth(3, less_by(plus(num(1), num(2)), alike(var(0), is_less(num(0), num(1)))), 3)


class Statements(BookCase):
    def test_0_nothing(self):
        self.check(5, nothing(), [ended_well()])

    def test_1_becomes(self):
        for v in range(8):
            self.check(5, then(put(v, plus(var(0), num(1))), fail(var(v))), [ended_failed(6)])
        self.check(5, then(put(1, num(8)), put(0, var(1)), fail(var(0))), [ended_failed(8)])

    def test_2_step_done(self):
        text = then(step(3, plus(var(0), num(1)), 2), fail(var(2)))
        self.check(5, text, [ask(3, 6)], (done(0, 40), [ended_failed(40)]))
        self.check(5, step(7, num(WHOLE - 1), 7, 8), [ask(7, WHOLE - 1)], (done(0, 40), [ended_well()]))

    def test_2_step_failed(self):
        text = then(step(3, var(0), 2), send(num(1), 1, num(1)))
        self.check(5, text, [ask(3, 5)], (failed(0, 41), [ended_failed(41)]))

    def test_2_a_failed_step_leaves_its_variable(self):
        text = catch(1, step(3, var(0), 0), step(4, var(0), 0))
        self.check(5, text, [ask(3, 5)], (failed(0, 41), [ask(4, 5)]), (done(1, 0), [ended_well()]))

    def test_3_wait(self):
        self.check(5, wait(plus(var(0), num(2))), [timer(7)], (fired(0), [ended_well()]))
        self.check(5, then(wait(num(0)), wait(num(1))), [timer(0)], (fired(0), [timer(1)]), (fired(1), [ended_well()]))

    def test_4_listen(self):
        for c in range(4):
            text = then(listen(c, 2), fail(var(2)))
            self.check(5, text, [], (word((c + 1) % 4, 7), []), (word(c, 8), [ended_failed(8)]))
            self.check(5, listen(c, 2), [], (word(c, 8), [ended_well()]))

    def test_5_send(self):
        text = then(send(plus(var(0), num(1)), 3, var(0)), send(num(0), 0, num(9)))
        self.check(5, text, [told(6, 5, 3), told(0, 9, 0), ended_well()])

    def test_6_fail(self):
        self.check(5, fail(var(0)), [ended_failed(5)])
        self.check(5, fail(num(0)), [ended_failed(0)])

    def test_7_then(self):
        text = then(send(num(1), 1, num(1)), step(2, num(2), 0), send(num(3), 3, num(3)))
        self.check(5, text, [told(1, 1, 1), ask(2, 2)], (done(1, 0), [told(3, 3, 3), ended_well()]))

    def test_7_second_is_not_begun_when_first_failed(self):
        self.check(5, then(fail(num(8)), send(num(1), 1, num(1))), [ended_failed(8)])
        text = then(step(1, num(1), 0), send(num(1), 1, num(1)))
        self.check(5, text, [ask(1, 1)], (failed(0, 8), [ended_failed(8)]))

    def test_7_ends_as_its_second(self):
        self.check(5, then(wait(num(1)), fail(num(8))), [timer(1)], (fired(0), [ended_failed(8)]))

    def test_8_choice(self):
        text = choice(var(0), step(1, num(1), 0), step(2, num(2), 0))
        self.check(0, text, [ask(2, 2)], (done(0, 0), [ended_well()]))
        self.check(1, text, [ask(1, 1)], (failed(0, 3), [ended_failed(3)]))
        self.check(WHOLE - 1, text, [ask(1, 1)], (done(0, 0), [ended_well()]))

    def test_8_is_looked_at_when_it_is_begun(self):
        text = beside(choice(var(0), step(1, num(1), 1), step(2, num(2), 1)), put(0, num(0)))
        self.check(5, text, [ask(1, 1)], (done(0, 0), [ended_well()]))

    def test_9_loop(self):
        text = loop(var(0), then(step(4, var(0), 1), put(0, less_by(var(0), num(1)))))
        self.check(0, text, [ended_well()])
        self.check(2, text, [ask(4, 2)], (done(0, 0), [ask(4, 1)]), (done(1, 0), [ended_well()]))
        self.check(2, text, [ask(4, 2)], (done(0, 0), [ask(4, 1)]), (failed(1, 6), [ended_failed(6)]))

    def test_9_fails_at_once(self):
        self.check(1, loop(var(0), fail(num(3))), [ended_failed(3)])

    def test_10_both_end_well(self):
        text = beside(step(1, num(1), 1), step(2, num(2), 2))
        self.check(5, text, [ask(1, 1), ask(2, 2)], (done(1, 0), []), (done(0, 0), [ended_well()]))
        self.check(5, text, [ask(1, 1), ask(2, 2)], (done(0, 0), []), (done(1, 0), [ended_well()]))
        self.check(5, beside(nothing(), send(num(1), 2, num(3))), [told(1, 3, 2), ended_well()])
        self.check(5, beside(nothing(), wait(num(1))), [timer(1)], (fired(0), [ended_well()]))
        self.check(5, beside(wait(num(1)), nothing()), [timer(1)], (fired(0), [ended_well()]))

    def test_11_limit(self):
        text = limit(num(9), step(1, num(1), 1), step(2, var(1), 2))
        self.check(5, text, [ask(1, 1), timer(9)], (done(0, 4), [stop(1), ended_well()]))
        self.check(5, text, [ask(1, 1), timer(9)], (failed(0, 4), [stop(1), ended_failed(4)]))
        self.check(5, text, [ask(1, 1), timer(9)], (fired(1), [call_off(0)]), (failed(0, 4), [ask(2, 0)]),
                   (failed(3, 6), [ended_failed(6)]))

    def test_12_catch(self):
        text = catch(2, step(1, num(1), 1), step(2, var(2), 2))
        self.check(5, text, [ask(1, 1)], (done(0, 4), [ended_well()]))
        self.check(5, text, [ask(1, 1)], (failed(0, 4), [ask(2, 4)]), (done(1, 0), [ended_well()]))
        self.check(5, text, [ask(1, 1)], (failed(0, 4), [ask(2, 4)]), (failed(1, 7), [ended_failed(7)]))
        self.check(5, catch(2, fail(num(3)), fail(plus(var(2), num(1)))), [ended_failed(4)])
        self.check(5, catch(2, nothing(), send(num(1), 1, num(1))), [ended_well()])

    def test_12_stands_around_both_of_a_pair(self):
        text = catch(2, beside(wait(num(1)), fail(num(3))), send(num(1), 1, var(2)))
        self.check(5, text, [timer(1), stop(0), told(1, 3, 1), ended_well()])

    def test_13_deal(self):
        text = catch(1, deal(then(step(1, num(1), 2, 5), fail(num(9)))), step(2, var(1), 2))
        self.check(5, text, [ask(1, 1)], (done(0, 30), [ask(4, 30)]), (done(1, 0), [ask(2, 9)]),
                   (done(2, 0), [ended_well()]))
        self.check(5, deal(step(1, num(1), 2, 5)), [ask(1, 1)], (done(0, 30), [ended_well()]))

    def test_14_change(self):
        for n in range(8):
            text = then(change(n, step(1, num(1), 2), step(2, num(2), 2)), send(num(3), 3, num(3)))
            self.check(5, text, [taken(n), ask(1, 1)], (done(1, 0), [told(3, 3, 3), ended_well()]))
            self.check(5, text, [taken(n), ask(1, 1)], (failed(1, 8), [ended_failed(8)]))

    def test_begins_with_x_in_variable_0_alone(self):
        text = send(var(0), 0, plus(plus(plus(var(1), var(2)), plus(var(3), var(4))), plus(plus(var(5), var(6)), var(7))))
        self.check(WHOLE - 1, text, [told(WHOLE - 1, 0, 0), ended_well()])
        self.check(0, wait(var(0)), [timer(0)], (off(), [stop(0), [6, 3, 0, 0]]))
