"""Whether a book is sound: by itself, whatever text it may be of."""

from helper import BookCase, WHOLE
from helper import done, failed, never, fired, word, off
from helper import ask, timer, stop, call_off, taken, told, ended_well, ended_failed, ended_off

ANSWERS = [done, failed]
ALL_BIDS = [ask(1, 2), timer(3), stop(0), call_off(0), taken(4), told(5, 6, 3), ended_well()]


class Sound(BookCase):
    def assert_may_come(self, happened, pages, happening):
        self.assert_sound(happened, pages, 1)
        self.assert_sound(happened + [happening], pages + [[]], 1)

    def assert_may_not_come(self, happened, pages, happening):
        """Nor does it help what's bidden by it, or that something else comes behind it."""
        self.assert_sound(happened, pages, 1)
        for page in ([], [ask(1, 1), timer(1), call_off(0), call_off(1)], [ended_off()]):
            self.assert_sound(happened + [happening], pages + [page], 0)
            self.assert_sound(happened + [happening, word(0, 1)], pages + [page, []], 0)

    def test_no_happenings(self):
        self.assert_sound([], [[]], 1)
        for bid in ALL_BIDS:
            self.assert_sound([], [[bid]], 1)
            self.assert_sound([], [[bid, bid]], 1)
        self.assert_sound([], [ALL_BIDS], 1)
        self.assert_sound([], [[[kind] + [WHOLE - 1] * 3 for kind in range(7)]], 1)

    def test_no_book_of_any_text(self):
        self.assert_sound([done(2, 5), word(3, 1)], [[stop(7), taken(9), ask(99, 1)], [stop(2), stop(2)], [call_off(2)]], 1)


class Answers(Sound):
    def test_done_and_failed(self):
        for answer in ANSWERS:
            for x in (0, 7, WHOLE - 1):
                self.assert_may_come([], [[ask(1, 2)]], answer(0, x))
                self.assert_may_come([], [[timer(1), ask(1, 2)]], answer(1, x))
            self.assert_may_come([word(0, 1)], [[], [ask(1, 2)]], answer(0, 7))

    def test_an_ask_is_known_by_its_first_number_alone(self):
        for bid in ([0, 0, 0, 0], [0, 8, 1, 0], [0, 1, 2, 3], [0] + [WHOLE - 1] * 3):
            for answer in ANSWERS:
                self.assert_may_come([], [[bid]], answer(0, 7))

    def test_no_bid(self):
        for answer in ANSWERS:
            self.assert_may_not_come([], [[]], answer(0, 7))
            for i in (1, 2, WHOLE - 1):
                self.assert_may_not_come([], [[ask(1, 2)]], answer(i, 7))

    def test_another_kind_of_bid(self):
        for answer in ANSWERS:
            for bid in ALL_BIDS[1:]:
                self.assert_may_not_come([], [[bid]], answer(0, 7))
                self.assert_may_not_come([], [[ask(1, 2), bid]], answer(1, 7))

    def test_a_bid_of_a_later_page(self):
        for answer in ANSWERS:
            self.assert_sound([answer(0, 7)], [[], [ask(1, 2)]], 0)
            self.assert_sound([answer(1, 7)], [[ask(1, 2)], [ask(1, 2)]], 0)
            self.assert_sound([answer(1, 7), word(0, 1)], [[ask(1, 2)], [], [ask(1, 2)]], 0)
            self.assert_sound([word(0, 1), answer(1, 7)], [[ask(1, 2)], [ask(1, 2)], []], 1)

    def test_answered_twice(self):
        first_page = [ask(1, 2), ask(1, 2), call_off(0), call_off(1)]
        for first in (done(0, 7), failed(0, 7), never(0)):
            for second in (done(0, 7), done(0, 8), failed(0, 7), never(0)):
                self.assert_may_not_come([first], [first_page, []], second)
                self.assert_may_not_come([first, word(0, 1)], [first_page, [], [ask(1, 2)]], second)
            for second in (done(1, 7), failed(1, 7), never(1)):
                self.assert_may_come([first], [first_page, []], second)

    def test_the_numbers_go_through_all_pages(self):
        pages = [[ask(1, 2)], [], [timer(1), ask(1, 2)], [ask(3, 4)]]
        ahead = [word(0, 1), word(0, 1), word(0, 1)]
        for answer in ANSWERS:
            for i in (0, 2, 3):
                self.assert_may_come(ahead, pages, answer(i, 7))
            for i in (1, 4):
                self.assert_may_not_come(ahead, pages, answer(i, 7))

    def test_what_else_happened_with_its_number(self):
        self.assert_sound([word(0, 0), done(0, 7)], [[ask(1, 2)], [], []], 1)
        self.assert_sound([off(), done(0, 7)], [[ask(1, 2)], [], []], 1)

    def test_a_step_that_is_called_off_may_be_answered(self):
        for answer in ANSWERS:
            self.assert_may_come([], [[ask(1, 2), call_off(0)]], answer(0, 7))
            self.assert_may_come([off()], [[ask(1, 2)], [call_off(0)]], answer(0, 7))


class NeverDone(Sound):
    def test_called_off(self):
        self.assert_may_come([], [[ask(1, 2), call_off(0)]], never(0))
        self.assert_may_come([word(0, 1)], [[ask(1, 2)], [call_off(0)]], never(0))
        self.assert_may_come([], [[ask(1, 2), ask(1, 2), call_off(0), call_off(1)]], never(1))
        self.assert_may_come([], [[ask(1, 2), call_off(0), call_off(0)]], never(0))

    def test_not_called_off(self):
        self.assert_may_not_come([], [[ask(1, 2)]], never(0))
        self.assert_may_not_come([off()], [[ask(1, 2)], []], never(0))
        self.assert_may_not_come([], [[ask(1, 2), ask(1, 2), call_off(1)]], never(0))
        self.assert_may_not_come([], [[ask(1, 2), stop(0)]], never(0))

    def test_just_these_four_numbers(self):
        for bid in ([3, 0, 0, 1], [3, 0, 1, 0], [3, 0, 1, 1], [3, 0, WHOLE - 1, 0], [3, 0, 0, WHOLE - 1], [3, 1, 0, 0]):
            self.assert_may_not_come([], [[ask(1, 2), bid]], never(0))
            self.assert_may_come([], [[ask(1, 2), bid, call_off(0)]], never(0))

    def test_called_off_on_a_later_page(self):
        self.assert_sound([never(0)], [[ask(1, 2)], [call_off(0)]], 0)
        self.assert_sound([never(0), word(0, 1)], [[ask(1, 2)], [], [call_off(0)]], 0)
        self.assert_sound([word(0, 1), never(0)], [[ask(1, 2)], [call_off(0)], []], 1)

    def test_called_off_ahead_of_its_ask(self):
        self.assert_may_come([], [[call_off(1), ask(1, 2)]], never(1))
        self.assert_may_come([word(0, 1)], [[call_off(1)], [ask(1, 2)]], never(1))
        self.assert_may_not_come([], [[call_off(1)]], never(1))
        self.assert_may_not_come([], [[call_off(0), ask(1, 2)]], never(1))

    def test_no_ask(self):
        self.assert_may_not_come([], [[call_off(0)]], never(0))
        self.assert_may_not_come([], [[]], never(0))
        for bid in ALL_BIDS[1:]:
            self.assert_may_not_come([], [[bid, call_off(0)]], never(0))
        self.assert_may_not_come([], [[call_off(9)]], never(9))


class Timers(Sound):
    def test_fired(self):
        self.assert_may_come([], [[timer(1)]], fired(0))
        self.assert_may_come([], [[ask(1, 2), timer(0)]], fired(1))
        self.assert_may_come([word(0, 1)], [[], [timer(1)]], fired(0))
        for bid in ([1, 0, 0, 0], [1, 4, 1, 0], [1, 4, 0, 1], [1] + [WHOLE - 1] * 3):
            self.assert_may_come([], [[bid]], fired(0))

    def test_no_timer(self):
        self.assert_may_not_come([], [[]], fired(0))
        for i in (1, 2, WHOLE - 1):
            self.assert_may_not_come([], [[timer(1)]], fired(i))
        for bid in ALL_BIDS[:1] + ALL_BIDS[2:]:
            self.assert_may_not_come([], [[bid]], fired(0))

    def test_a_timer_of_a_later_page(self):
        self.assert_sound([fired(0)], [[], [timer(1)]], 0)
        self.assert_sound([fired(0), word(0, 1)], [[], [], [timer(1)]], 0)

    def test_fired_twice(self):
        self.assert_may_not_come([fired(0)], [[timer(1)], []], fired(0))
        self.assert_may_not_come([fired(0), word(0, 1)], [[timer(1)], [], [timer(1)]], fired(0))
        self.assert_may_come([fired(0)], [[timer(1), timer(1)], []], fired(1))

    def test_stopped(self):
        self.assert_may_not_come([], [[timer(1), stop(0)]], fired(0))
        self.assert_may_not_come([word(0, 1)], [[timer(1)], [stop(0)]], fired(0))
        self.assert_may_not_come([], [[timer(1), stop(0), stop(0)]], fired(0))
        self.assert_may_come([], [[timer(1), timer(1), stop(0)]], fired(1))
        self.assert_may_come([], [[timer(1), call_off(0)]], fired(0))

    def test_stopped_in_just_these_four_numbers(self):
        for bid in ([2, 0, 0, 1], [2, 0, 1, 0], [2, 0, 1, 1], [2, 0, WHOLE - 1, 0], [2, 0, 0, WHOLE - 1], [2, 1, 0, 0]):
            self.assert_may_come([], [[timer(1), bid]], fired(0))
            self.assert_may_not_come([], [[timer(1), bid, stop(0)]], fired(0))

    def test_stopped_on_a_later_page(self):
        self.assert_sound([fired(0)], [[timer(1)], [stop(0)]], 1)
        self.assert_sound([fired(0), word(0, 1)], [[timer(1)], [], [stop(0)]], 1)
        self.assert_sound([word(0, 1), fired(0)], [[timer(1)], [stop(0)], []], 0)

    def test_stopped_ahead_of_its_timer(self):
        self.assert_may_not_come([], [[stop(1), timer(1)]], fired(1))
        self.assert_may_not_come([word(0, 1)], [[stop(1)], [timer(1)]], fired(1))

    def test_an_ask_with_the_number_of_what_fired(self):
        self.assert_sound([fired(0), done(1, 7)], [[timer(1), ask(1, 2)], [], []], 1)
        self.assert_sound([fired(1), done(1, 7)], [[timer(1), ask(1, 2)], [], []], 0)


class WordsAndCallingOff(Sound):
    def test_words(self):
        for c in range(4):
            self.assert_may_come([], [[]], word(c, 7))
            self.assert_may_come([word(c, 7)], [[], []], word(c, 7))
            self.assert_may_come([off()], [[], []], word(c, WHOLE - 1))
        for c in (4, 5, WHOLE - 1):
            self.assert_may_not_come([], [[]], word(c, 7))
            self.assert_may_not_come([], [[ask(1, 2)]], word(c, 0))

    def test_called_off(self):
        self.assert_may_come([], [[]], off())
        self.assert_may_come([word(0, 1), done(0, 7)], [[ask(1, 2)], [], []], off())
        self.assert_may_come([], [[ask(1, 2), call_off(0)]], off())

    def test_called_off_twice(self):
        self.assert_may_not_come([off()], [[], []], off())
        self.assert_may_not_come([off(), word(0, 1)], [[], [], []], off())
        self.assert_may_not_come([word(0, 1), off(), word(0, 1)], [[], [], [], []], off())


class Over(Sound):
    EACH = [done(0, 1), failed(0, 1), never(1), fired(2), word(0, 1), off()]
    FIRST = [ask(1, 2), ask(1, 2), timer(3), call_off(1)]

    def test_behind_a_bid_6(self):
        for each in self.EACH:
            self.assert_may_come([], [self.FIRST], each)
            for end in (ended_well(), ended_failed(7), ended_off(), [6, 0, 0, 0], [6] + [WHOLE - 1] * 3):
                self.assert_may_not_come([], [self.FIRST + [end]], each)
                self.assert_may_not_come([], [[ask(1, 2), ask(1, 2), end, timer(3), call_off(1)]], done(0, 1))
                self.assert_may_not_come([word(0, 1)], [self.FIRST, [end]], each)

    def test_behind_it_at_any_distance(self):
        self.assert_sound([word(0, 1), word(0, 1), word(0, 1)], [[], [], [], [ended_well()]], 1)
        self.assert_sound([word(0, 1), word(0, 1), word(0, 1)], [[], [], [ended_well()], []], 0)
        self.assert_sound([word(0, 1), word(0, 1), word(0, 1)], [[ended_well()], [], [], []], 0)

    def test_ended_by_it(self):
        for each in self.EACH:
            self.assert_sound([each], [self.FIRST, [ended_well()]], 1)

    def test_two_ends(self):
        self.assert_sound([], [[ended_well(), ended_off()]], 1)
        self.assert_sound([word(0, 1)], [[], [ended_well(), ask(1, 2), ended_off()]], 1)


class Long(Sound):
    def test_sixty_happenings_and_two_hundred_bids(self):
        pages = [[ask(1, 2)] * 140] + [[call_off(i)] for i in range(60)]
        self.assert_sound([done(i, 1) for i in range(60)], pages, 1)
        self.assert_sound([done(0, 1)] + [never(i) for i in range(59)], pages, 0)
        self.assert_sound([word(0, 1)] + [never(i) for i in range(59)], pages, 1)
        self.assert_sound([done(i, 1) for i in range(59)] + [done(0, 1)], pages, 0)
        self.assert_sound([word(3, 1)] * 60, [[]] * 61, 1)
