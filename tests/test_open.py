"""What is open, called off and running by a book alone, whatever text it may be of."""

from bookagain.errand import open_of
from helper import BookCase, WHOLE
from helper import done, failed, never, fired, word, off
from helper import ask, timer, stop, call_off, taken, told, ended_well, ended_failed, ended_off

ANSWERS = [done(0, 7), failed(0, 7), never(0)]
NO_ASKS = [timer(3), stop(0), call_off(0), taken(4), told(5, 6, 3), ended_well()]


class Asks(BookCase):
    def test_the_empty_book(self):
        self.assertEqual(self.answer(open_of, [], [0], []), [0, 0, 0])
        self.assert_open([word(0, 1), off()], [[], [], []], [], [], [])

    def test_open(self):
        self.assert_open([], [[ask(1, 2)]], [0], [], [])
        self.assert_open([], [[ask(1, 2), ask(1, 2)]], [0, 1], [], [])
        self.assert_open([word(0, 1), off()], [[ask(1, 2)], [], [told(1, 2, 3), ask(3, 4)]], [0, 2], [], [])

    def test_each_number_is_told(self):
        pages = [[ask(1, 2), timer(3), ask(3, 4), call_off(2), timer(4)], [ask(1, 1), call_off(0), timer(9)]]
        answer = self.answer(open_of, word(0, 1), [5, 3], [number for page in pages for four in page for number in four])
        self.assertEqual(answer, [3, 0, 2, 5] + [2, 0, 2] + [3, 1, 4, 7])

    def test_an_ask_is_known_by_its_first_number_alone(self):
        self.assert_open([], [[[0, 0, 0, 0], [0, 8, 1, 0], [0, 1, 2, 3], [0] + [WHOLE - 1] * 3]], [0, 1, 2, 3], [], [])
        for bid in ([1, 0, 0, 0], [2, 0, 0, 0], [4, 0, 0, 0], [5, 0, 0, 0], [6, 0, 0, 0]):
            self.assert_open([], [[timer(1), bid]], [], [], [] if bid[0] == 2 else [0, 1] if bid[0] == 1 else [0])

    def test_answered(self):
        for answer in ANSWERS:
            self.assert_open([answer], [[ask(1, 2)], []], [], [], [])
            self.assert_open([answer], [[ask(1, 2), ask(1, 2)], [ask(3, 4)]], [1, 2], [], [])
            self.assert_open([word(0, 1), answer], [[ask(1, 2)], [], []], [], [], [])
        self.assert_open([done(1, 0), failed(3, 0)], [[ask(1, 2)] * 5, [], []], [0, 2, 4], [], [])

    def test_told_by_other_happenings(self):
        for happening in (fired(0), word(0, 0), off()):
            self.assert_open([happening], [[ask(1, 2)], []], [0], [], [])

    def test_answered_twice(self):
        for first in ANSWERS:
            for second in ANSWERS:
                self.assert_open([first, second], [[ask(1, 2), ask(1, 2)], [], []], [1], [], [])

    def test_the_number_of_no_bid(self):
        for i in (1, 2, WHOLE - 1):
            for happening in (done(i, 7), failed(i, 7), never(i), fired(i)):
                self.assert_open([happening], [[ask(1, 2)], []], [0], [], [])
                self.assert_open([happening], [[timer(1)], []], [], [], [0])

    def test_the_number_of_a_bid_that_is_no_ask(self):
        for bid in NO_ASKS:
            for answer in ANSWERS:
                self.assert_open([answer], [[bid, ask(1, 2)], []], [1], [], [0] if bid[0] == 1 else [])

    def test_told_ahead_of_its_bid(self):
        for answer in ANSWERS:
            self.assert_open([answer], [[], [ask(1, 2)]], [], [], [])
            self.assert_open([answer, word(0, 1)], [[], [], [ask(1, 2), ask(1, 2)]], [1], [], [])


class CalledOff(BookCase):
    def test_called_off(self):
        self.assert_open([], [[ask(1, 2), call_off(0)]], [0], [0], [])
        self.assert_open([off()], [[ask(1, 2), ask(1, 2), ask(1, 2)], [call_off(2), call_off(0)]], [0, 1, 2], [0, 2], [])
        self.assert_open([], [[ask(1, 2), call_off(0), call_off(0)]], [0], [0], [])

    def test_not_called_off(self):
        self.assert_open([off()], [[ask(1, 2)], []], [0], [], [])
        for bid in (stop(0), taken(0), told(0, 0, 0), call_off(1), call_off(2), call_off(WHOLE - 1)):
            self.assert_open([], [[ask(1, 2), bid]], [0], [], [])

    def test_just_these_four_numbers(self):
        for bid in ([3, 0, 0, 1], [3, 0, 1, 0], [3, 0, 1, 1], [3, 0, WHOLE - 1, 0], [3, 0, 0, WHOLE - 1], [3, 1, 0, 0]):
            self.assert_open([], [[ask(1, 2), bid]], [0], [], [])
            self.assert_open([], [[ask(1, 2), bid, call_off(0)]], [0], [0], [])

    def test_of_an_ask_that_is_not_open_any_more(self):
        for answer in ANSWERS:
            self.assert_open([answer], [[ask(1, 2), ask(1, 2), call_off(0)], []], [1], [], [])
            self.assert_open([answer], [[ask(1, 2), ask(1, 2)], [call_off(0), call_off(1)]], [1], [1], [])

    def test_ahead_of_its_asks_own_bid(self):
        self.assert_open([], [[call_off(1), ask(1, 2)]], [1], [1], [])
        self.assert_open([word(0, 1)], [[call_off(2), timer(1)], [ask(1, 2)]], [2], [2], [1])

    def test_of_a_bid_that_is_no_ask(self):
        self.assert_open([], [[timer(1), call_off(0), call_off(1)]], [], [], [0])
        self.assert_open([], [[call_off(0)]], [], [], [])


class Timers(BookCase):
    def test_running(self):
        self.assert_open([], [[timer(1)]], [], [], [0])
        self.assert_open([word(0, 1)], [[timer(0), ask(1, 2), timer(WHOLE - 1)], [timer(4)]], [1], [], [0, 2, 3])
        self.assert_open([], [[[1, 4, 1, 0], [1, 4, 0, 1], [1] + [WHOLE - 1] * 3]], [], [], [0, 1, 2])

    def test_stopped(self):
        self.assert_open([], [[timer(1), stop(0)]], [], [], [])
        self.assert_open([word(0, 1)], [[timer(1), timer(1), timer(1)], [stop(1)]], [], [], [0, 2])
        self.assert_open([], [[timer(1), stop(0), stop(0)]], [], [], [])

    def test_stopped_in_just_these_four_numbers(self):
        for bid in ([2, 0, 0, 1], [2, 0, 1, 0], [2, 0, 1, 1], [2, 0, WHOLE - 1, 0], [2, 0, 0, WHOLE - 1], [2, 1, 0, 0],
                    [2, 2, 0, 0], [3, 0, 0, 0], [5, 0, 0, 0]):
            self.assert_open([], [[timer(1), bid]], [], [], [0])

    def test_stopped_ahead_of_its_own_bid(self):
        self.assert_open([], [[stop(1), timer(1)]], [], [], [])
        self.assert_open([word(0, 1)], [[stop(2), timer(1)], [timer(1)]], [], [], [1])

    def test_fired(self):
        self.assert_open([fired(0)], [[timer(1)], []], [], [], [])
        self.assert_open([fired(1)], [[timer(1), timer(1), timer(1)], [timer(1)]], [], [], [0, 2, 3])
        self.assert_open([fired(0), fired(0)], [[timer(1), timer(1)], [], []], [], [], [1])
        self.assert_open([fired(0)], [[], [timer(1)]], [], [], [])

    def test_fired_and_stopped(self):
        self.assert_open([fired(0)], [[timer(1), stop(0)], []], [], [], [])
        self.assert_open([fired(0)], [[timer(1), timer(1)], [stop(1)]], [], [], [])

    def test_told_by_other_happenings(self):
        for happening in (done(0, 7), failed(0, 7), never(0), word(0, 0), off()):
            self.assert_open([happening], [[timer(1)], []], [], [], [0])

    def test_the_number_of_a_bid_that_is_no_timer(self):
        for bid in [ask(1, 2)] + NO_ASKS[1:]:
            self.assert_open([fired(0)], [[bid, timer(1)], []], [0] if bid[0] == 0 else [], [], [1])


class AnyBook(BookCase):
    def test_a_book_that_is_over(self):
        for end in (ended_well(), ended_failed(7), ended_off(), [6, 0, 0, 0]):
            self.assert_open([], [[end]], [], [], [])
            self.assert_open([], [[ask(1, 2), timer(3), call_off(0), end]], [0], [0], [1])
            self.assert_open([word(0, 1)], [[end, ask(1, 2), timer(3)], [call_off(1)]], [1], [1], [2])
            self.assert_open([done(0, 5)], [[ask(1, 2)], [end]], [], [], [])

    def test_a_book_that_is_not_sound(self):
        for happened, pages, wanted in (
                ([done(9, 9)], [[ask(1, 2), timer(3)], []], ([0], [], [1])),
                ([never(0)], [[ask(1, 2), timer(3)], [ask(1, 2)]], ([2], [], [1])),
                ([fired(0)], [[ask(1, 2), timer(3)], [call_off(0)]], ([0], [0], [1])),
                ([word(4, 1)], [[ask(1, 2), timer(3)], []], ([0], [], [1])),
                ([off(), off()], [[ask(1, 2), timer(3)], [call_off(0)], [stop(1)]], ([0], [0], [])),
                ([word(0, 1)], [[ask(1, 2), timer(3), ended_well()], [ask(1, 2)]], ([0, 3], [], [1]))):
            self.assert_sound(happened, pages, 0)
            self.assert_open(happened, pages, *wanted)

    def test_the_most_of_each(self):
        sixty = [word(0, 1)] * 60
        everything = list(range(200))
        self.assert_open(sixty, [[ask(1, 2)] * 200] + [[]] * 60, everything, [], [])
        self.assert_open(sixty, [[]] * 60 + [[timer(1)] * 200], [], [], everything)
        half = list(range(100))
        pages = [[ask(1, 2)] * 100 + [call_off(i) for i in half]] + [[]] * 60
        self.assert_open(sixty, pages, half, half, [])
        self.assert_open([never(i) for i in range(60)], pages, half[60:], half[60:], [])
        pages = [[timer(1)] * 100 + [stop(i) for i in half[:50]]] + [[ask(1, 2)]] * 50 + [[]] * 10
        self.assert_open([fired(i) for i in range(90, 30, -1)], pages, list(range(150, 200)), [], list(range(91, 100)))
