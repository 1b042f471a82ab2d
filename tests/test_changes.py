"""A change that is taken is taken again, in its place, and no other."""

from helper import BookCase
from helper import num, var, put, nothing, step, wait, listen, send, fail, then, loop, beside, change
from helper import done, fired, word
from helper import ask, timer, taken, told, ended_well, ended_failed

NEW = told(1, 1, 1)
OLD = told(2, 2, 2)


def new_or_old(n):
    return change(n, send(num(1), 1, num(1)), send(num(2), 2, num(2)))


class Changes(BookCase):
    def test_taken_and_not(self):
        text = change(3, step(1, num(1), 1), step(2, num(2), 2))
        self.check(0, text, [taken(3), ask(1, 1)], (done(1, 5), [ended_well()]))
        self.assert_fits(0, text, [done(0, 5)], [[ask(2, 2)], [ended_well()]], -6)
        self.assert_fits(0, text, [], [[taken(3), ask(2, 2)]], 0)
        self.assert_fits(0, text, [], [[ask(1, 1)]], 0)
        self.assert_fits(0, text, [done(1, 5)], [[ask(2, 2)], [ended_well()]], 1)
        self.assert_fits(0, text, [done(0, 5)], [[taken(3), ask(1, 1)], [ended_well()]], 1)

    def test_just_this_change_in_just_these_numbers(self):
        text = change(3, nothing(), nothing())
        self.assert_fits(0, text, [], [[taken(3), ended_well()]], -6)
        self.assert_fits(0, text, [], [[ended_well()]], -6)
        for other in (taken(2), taken(4), [4, 3, 1, 0], [4, 3, 0, 1], [3, 3, 0, 0], [5, 3, 0, 0]):
            self.assert_fits(0, text, [], [[other, ended_well()]], 0)

    def test_in_its_place(self):
        text = change(3, nothing(), nothing())
        self.assert_fits(0, text, [], [[ended_well(), taken(3)]], 0)
        self.assert_fits(0, text, [], [[taken(3), taken(3), ended_well()]], 0)
        behind = then(send(num(1), 1, num(1)), text, send(num(2), 2, num(2)))
        self.assert_fits(0, behind, [], [[NEW, taken(3), OLD, ended_well()]], -6)
        self.assert_fits(0, behind, [], [[NEW, OLD, ended_well()]], -6)
        self.assert_fits(0, behind, [], [[taken(3), NEW, OLD, ended_well()]], 0)
        self.assert_fits(0, behind, [], [[NEW, OLD, taken(3), ended_well()]], 0)
        self.assert_fits(0, behind, [], [[NEW, taken(3), ended_well()]], 0)

    def test_two_of_the_same_number_on_one_page(self):
        text = then(new_or_old(5), new_or_old(5))
        self.assert_writes(0, text, [], [[taken(5), NEW, taken(5), NEW, ended_well()]])
        for first in ([taken(5), NEW], [OLD]):
            for second in ([taken(5), NEW], [OLD]):
                self.assert_fits(0, text, [], [first + second + [ended_well()]], -6)
        for page in ([taken(5), OLD, NEW], [taken(5), taken(5), NEW, NEW], [taken(5), OLD, taken(5), NEW], [NEW, NEW],
                     [OLD, NEW], [taken(5), NEW], [OLD, taken(5)], [OLD, OLD, OLD]):
            self.assert_fits(0, text, [], [page + [ended_well()]], 0)

    def test_two_numbers(self):
        text = then(new_or_old(5), new_or_old(6))
        self.assert_fits(0, text, [], [[taken(5), NEW, taken(6), NEW, ended_well()]], -6)
        self.assert_fits(0, text, [], [[OLD, taken(6), NEW, ended_well()]], -6)
        self.assert_fits(0, text, [], [[taken(6), NEW, taken(5), NEW, ended_well()]], 0)
        self.assert_fits(0, text, [], [[OLD, taken(5), NEW, ended_well()]], 0)

    def test_within_a_change(self):
        text = change(1, new_or_old(2), new_or_old(3))
        for page in ([taken(1), taken(2), NEW], [taken(1), OLD], [taken(3), NEW], [OLD]):
            self.assert_fits(0, text, [], [page + [ended_well()]], -6)
        for page in ([taken(1), taken(3), NEW], [taken(2), NEW], [NEW], [taken(1), NEW]):
            self.assert_fits(0, text, [], [page + [ended_well()]], 0)

    def test_on_its_own_page(self):
        text = then(change(1, nothing(), nothing()), wait(num(4)), new_or_old(1))
        self.assert_fits(0, text, [fired(1)], [[taken(1), timer(4)], [taken(1), NEW, ended_well()]], -6)
        self.assert_fits(0, text, [fired(1)], [[taken(1), timer(4)], [OLD, ended_well()]], -6)
        self.assert_fits(0, text, [fired(0)], [[timer(4)], [taken(1), NEW, ended_well()]], -6)
        self.assert_fits(0, text, [fired(0)], [[timer(4)], [OLD, ended_well()]], -6)
        self.assert_fits(0, text, [fired(1)], [[taken(1), timer(4)], [NEW, ended_well()]], 1)
        self.assert_fits(0, text, [fired(0)], [[timer(4), taken(1)], [NEW, ended_well()]], 0)
        moved = then(change(1, wait(num(4)), wait(num(4))), nothing())
        self.assert_fits(0, moved, [fired(0)], [[timer(4)], [taken(1), ended_well()]], 1)

    def test_begun_behind_a_word(self):
        text = then(listen(0, 1), change(1, step(1, var(1), 2), fail(var(1))))
        self.check(0, text, [], (word(0, 6), [taken(1), ask(1, 6)]), (done(1, 0), [ended_well()]))
        self.assert_fits(0, text, [word(0, 6)], [[], [ended_failed(6)]], -6)

    def test_each_round_of_a_loop_by_itself(self):
        text = loop(num(1), then(listen(0, 1), new_or_old(2)))
        pages = [[], [OLD], [taken(2), NEW], [OLD], [taken(2), NEW]]
        words = [word(0, x) for x in range(4)]
        self.assert_fits(0, text, words, pages, -6)
        for at in range(1, 5):
            self.assert_fits(0, text, words, pages[:at] + [[taken(2), OLD]] + pages[at + 1:], at)
            self.assert_fits(0, text, words, pages[:at] + [[NEW]] + pages[at + 1:], at)
            self.assert_fits(0, text, words, pages[:at] + [[]] + pages[at + 1:], at)

    def test_side_by_side(self):
        text = beside(change(1, wait(num(1)), wait(num(2))), change(1, wait(num(3)), wait(num(4))))
        self.assert_fits(0, text, [], [[taken(1), timer(1), taken(1), timer(3)]], -6)
        self.assert_fits(0, text, [], [[taken(1), timer(1), timer(4)]], -6)
        self.assert_fits(0, text, [], [[timer(2), taken(1), timer(3)]], -6)
        self.assert_fits(0, text, [], [[timer(2), timer(4)]], -6)
        self.assert_fits(0, text, [], [[timer(2), timer(3)]], 0)

    def test_a_change_that_bids_as_it_was_before(self):
        text = then(change(1, put(1, num(8)), put(1, num(9))), wait(num(1)), fail(var(1)))
        self.assert_fits(0, text, [fired(1)], [[taken(1), timer(1)], [ended_failed(8)]], -6)
        self.assert_fits(0, text, [fired(0)], [[timer(1)], [ended_failed(9)]], -6)
        self.assert_fits(0, text, [fired(0)], [[timer(1)], [ended_failed(8)]], 1)
