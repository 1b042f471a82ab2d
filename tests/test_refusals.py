"""What is refused: -22 for no text, no book and no happening, -33 for a loop that doesn't wait, and which goes ahead."""

from bookagain.errand import fits, meant, next_of, open_of, sound, stands, writes
from helper import BookCase, WHOLE
from helper import num, var, plus, less_by, times, is_less, alike
from helper import nothing, put, step, wait, listen, send, fail, then, choice, loop, beside, limit, catch, deal, change
from helper import ask, timer, joined, ended_well, word

ONE_OF_EACH = [
    nothing(), put(7, num(1)), step(7, var(7), 7, 8), wait(num(WHOLE - 1)), listen(3, 7),
    send(plus(num(1), num(2)), 3, less_by(num(1), num(2))), fail(times(num(1), num(2))),
    then(nothing(), wait(is_less(num(1), num(2)))), choice(alike(num(1), num(2)), nothing(), listen(0, 0)),
    loop(num(0), wait(num(1))), beside(nothing(), put(0, num(0))), limit(num(1), wait(num(1)), nothing()),
    catch(7, fail(num(1)), nothing()), deal(step(0, num(0), 0, 0)), change(7, nothing(), fail(num(1))),
]
BAD_LOOP = loop(num(0), nothing())
CALLS_WITH_BOOKS = (fits, meant, stands)
CALLS_WITH_BOOKS_ALONE = (sound, open_of)
NEXT = [word(0, 1), [0, 5, 0], [5, 0, 0]]
NO_NEXT = [[], [4], [4, 0], [4, 0, 1, 4], [6, 0, 0], [7, 0, 0], [WHOLE - 1, 0, 0], [2, 0, 1], [3, 0, 1], [5, 1, 0], [5, 0, 1],
           [5, 1, 1], [2, 0, WHOLE - 1], [3, 0, WHOLE - 1], [5, WHOLE - 1, 0]]


def bushy(leaves):
    """A text of so many statements 0, side by side in few levels: 2 * leaves - 1 numbers."""
    if leaves == 1:
        return nothing()
    return then(bushy(leaves // 2), bushy(leaves - leaves // 2))


def deals(levels, inmost):
    return [13] * levels + inmost


def sums(levels):
    return [2] * levels + num(1) * (levels + 1)


class RefusalCase(BookCase):
    def assert_each(self, wanted, text, h, sizes, bids):
        """All calls that are handed a text and a book answer the refusal, whatever is to happen next."""
        for call in CALLS_WITH_BOOKS:
            self.assertEqual(self.answer(call, 0, text, h, sizes, bids), [wanted], (call, text, h, sizes, bids))
        for e in NEXT[:1] + NO_NEXT[:1] + NO_NEXT[4:5]:
            self.assertEqual(self.answer(next_of, 0, text, h, sizes, bids, e), [wanted], (text, h, sizes, bids, e))

    def assert_none(self, refusal, text, h, sizes, bids):
        for call in CALLS_WITH_BOOKS:
            self.assertNotEqual(self.answer(call, 0, text, h, sizes, bids), [refusal], (call, text, h, sizes, bids))
        for e in NEXT:
            self.assertNotEqual(self.answer(next_of, 0, text, h, sizes, bids, e), [refusal], (text, h, sizes, bids, e))

    def assert_parts_at(self, at, text, h, sizes, bids, page):
        """A book in its form, that doesn't fit from page `at` on; there `page` is meant."""
        wanted = [page] if isinstance(page, int) else [len(page)] + joined(page)
        self.assertEqual(self.answer(fits, 0, text, h, sizes, bids), [at])
        self.assertEqual(self.answer(meant, 0, text, h, sizes, bids), wanted)
        self.assertEqual(self.answer(stands, 0, text, h, sizes, bids), [-34])
        for e in NEXT:
            self.assertEqual(self.answer(next_of, 0, text, h, sizes, bids, e), [-34])
        for call in CALLS_WITH_BOOKS_ALONE:
            self.assertGreaterEqual(self.answer(call, h, sizes, bids)[0], 0)


class Texts(RefusalCase):
    def assert_no_text(self, text):
        self.assert_refused(0, text, [], -22)
        self.assert_each(-22, text, [], [0], [])

    def assert_text(self, text):
        self.assertGreater(self.answer(writes, 0, text, [])[0], 0, text)
        self.assert_none(-22, text, [], [0], [])

    def test_too_short(self):
        for text in ONE_OF_EACH:
            self.assert_text(text)
            for length in range(len(text)):
                self.assert_no_text(text[:length])

    def test_goes_on_behind_its_one_statement(self):
        for text in ONE_OF_EACH:
            self.assert_no_text(text + [0])
            self.assert_no_text(text + text)

    def test_most_numbers(self):
        self.assertEqual((len(bushy(79)), len(bushy(80)), len(bushy(81))), (157, 159, 161))
        self.assert_text(bushy(80))
        self.assert_text(deal(bushy(80)))
        self.assert_no_text(bushy(81))
        self.assert_no_text(bushy(100))
        self.assert_no_text([0] * 200)
        self.assert_no_text([13] * 200)
        self.assert_no_text([2] * 200)

    def test_levels_of_statements(self):
        self.assert_text(deals(23, nothing()))
        self.assert_no_text(deals(24, nothing()))
        self.assert_text([7, 0] * 23 + nothing())
        self.assert_no_text([7, 0] * 24 + nothing())
        for statement in ONE_OF_EACH[7:]:
            self.assert_text(deals(20, statement))
            self.assert_no_text(deals(23, statement))
        self.assert_text(deals(23, listen(0, 0)))
        self.assert_no_text(deals(24, listen(0, 0)))

    def test_levels_of_expressions(self):
        for statement in (put(0, num(1)), step(0, num(1), 0), wait(num(1)), send(num(1), 0, num(1)), fail(var(1))):
            self.assert_text(deals(22, statement))
            self.assert_no_text(deals(23, statement))
        for kind in range(2, 7):
            self.assert_text(deals(21, fail([kind] + num(1) + var(1))))
            self.assert_no_text(deals(22, fail([kind] + num(1) + var(1))))
        self.assert_text(fail(sums(22)))
        self.assert_no_text(fail(sums(23)))
        self.assert_text(choice(sums(22), nothing(), nothing()))
        self.assert_no_text(choice(sums(23), nothing(), nothing()))

    def test_numbers_that_name_nothing(self):
        for text in ([15], [WHOLE - 1], [7, 15, 0], [7, 0, 15], [13, 15], fail([7]), fail([7, 0, 0]), fail([WHOLE - 1]),
                     fail([2, 7, 0]), fail(plus(num(1), [7]))):
            self.assert_no_text(text)

    def test_no_such_variable(self):
        for v in (8, WHOLE - 1):
            for text in (put(v, num(1)), step(0, num(0), v), listen(0, v), catch(v, nothing(), nothing()), fail(var(v))):
                self.assert_no_text(text)

    def test_no_such_work(self):
        for k in (8, WHOLE - 1):
            self.assert_no_text(step(k, num(0), 0))
        for b in (9, WHOLE - 1):
            self.assert_no_text(step(0, num(0), 0, b))

    def test_no_such_kind(self):
        for c in (4, WHOLE - 1):
            self.assert_no_text(listen(c, 0))
            self.assert_no_text(send(num(0), c, num(0)))

    def test_no_such_change(self):
        for n in (8, WHOLE - 1):
            self.assert_no_text(change(n, nothing(), nothing()))


class Books(RefusalCase):
    TEXT = loop(num(1), listen(0, 1))

    def assert_no_book(self, h, sizes, bids):
        self.assert_each(-22, self.TEXT, h, sizes, bids)
        for call in CALLS_WITH_BOOKS_ALONE:
            self.assertEqual(self.answer(call, h, sizes, bids), [-22], (call, h, sizes, bids))

    def assert_no_happenings(self, h):
        self.assert_refused(0, self.TEXT, [h], -22)
        self.assert_no_book(h, [0] * (len(h) // 3 + 1), [])

    def test_no_threes(self):
        for h in ([0], [4, 0], [4, 0, 1, 4], [4, 0, 1, 4, 0]):
            self.assert_no_happenings(h)

    def test_not_as_told(self):
        for h in ([6, 0, 0], [7, 0, 0], [WHOLE - 1, 0, 0], [2, 0, 1], [3, 0, 1], [5, 1, 0], [5, 0, 1], [5, 1, 1]):
            self.assert_no_happenings(h)
            self.assert_no_happenings([4, 0, 1] + h)
            self.assert_no_happenings(h + [4, 0, 1])

    def test_any_i_and_x_and_c(self):
        most = WHOLE - 1
        for h in ([0, most, most], [1, most, most], [2, most, 0], [3, most, 0], [4, most, most], [4, 4, 0]):
            self.assert_refused(0, self.TEXT, [h], -16)
            self.assert_parts_at(1, self.TEXT, h, [0, 0], [], -16)

    def test_most_happenings(self):
        sixty = word(0, 1) * 60
        self.assertEqual(self.answer(writes, 0, self.TEXT, sixty), [61] + [0] * 61)
        self.assertEqual(self.answer(fits, 0, self.TEXT, sixty, [0] * 61, []), [-6])
        self.assertEqual(self.answer(meant, 0, self.TEXT, sixty, [0] * 61, []), [-6])
        self.assertEqual(self.answer(stands, 0, self.TEXT, sixty, [0] * 61, []), [0, 0, 0, 1] + [0] * 6 + [1, 0])
        self.assert_no_happenings(sixty + word(0, 1))
        self.assert_no_happenings(word(0, 1) * 66)

    def test_sizes_one_more_than_happenings(self):
        self.assert_no_book([], [], [])
        self.assert_no_book([], [0, 0], [])
        self.assert_no_book([4, 0, 1], [0], [])
        self.assert_no_book([4, 0, 1], [0, 0, 0], [])
        self.assert_no_book([], [0] * 80, [])

    def test_sizes_together_as_many_as_bids(self):
        self.assert_no_book([], [1], [])
        self.assert_no_book([], [0], timer(1))
        self.assert_no_book([], [WHOLE - 1], timer(1))
        self.assert_no_book([4, 0, 1], [1, 1], timer(1))
        self.assert_no_book([4, 0, 1], [1, 1], timer(1) * 3)

    def test_bids_are_fours_of_known_kinds(self):
        for length in (1, 2, 3):
            self.assert_no_book([], [0], timer(1)[:length])
            self.assert_no_book([], [1], timer(1) + [0] * length)
        self.assert_no_book([], [1], [7, 0, 0, 0])
        self.assert_no_book([], [1], [WHOLE - 1, 0, 0, 0])
        self.assert_no_book([], [2], timer(1) + [7, 0, 0, 0])

    def test_any_numbers_behind_a_known_kind(self):
        for kind in range(7):
            self.assert_parts_at(0, self.TEXT, [], [1], [kind] + [WHOLE - 1] * 3, [])

    def test_longest_book(self):
        self.assert_parts_at(0, self.TEXT, word(0, 1) * 60, [200] + [0] * 60, timer(1) * 200, [])


class Loops(RefusalCase):
    def assert_waits(self, inner):
        for text in (loop(num(0), inner), loop(num(1), inner)):
            self.assertNotEqual(self.answer(writes, 0, text, []), [-33], text)
            self.assert_none(-33, text, [], [0], [])

    def assert_does_not_wait(self, inner):
        for text in (loop(num(0), inner), loop(num(1), inner), loop(num(0), then(put(1, num(1)), inner))):
            self.assert_refused(0, text, [], -33)
            self.assert_each(-33, text, [], [0], [])

    def test_0_to_6(self):
        for inner in (nothing(), put(1, num(1)), send(num(1), 1, num(1))):
            self.assert_does_not_wait(inner)
        for inner in (step(1, num(1), 1), wait(num(0)), listen(1, 1), fail(num(1))):
            self.assert_waits(inner)

    def test_7_may_end_well_if_both_may(self):
        self.assert_does_not_wait(then(nothing(), nothing()))
        self.assert_waits(then(wait(num(1)), nothing()))
        self.assert_waits(then(nothing(), wait(num(1))))
        self.assert_waits(then(nothing(), fail(num(1))))

    def test_7_may_fail_if_its_first_may_or_its_second_behind_it(self):
        self.assert_does_not_wait(catch(1, then(fail(num(1)), wait(num(1))), nothing()))
        self.assert_does_not_wait(catch(1, then(nothing(), fail(num(1))), nothing()))
        self.assert_waits(catch(1, then(wait(num(1)), fail(num(1))), nothing()))
        self.assert_waits(catch(1, then(nothing(), wait(num(1))), nothing()))

    def test_8_and_14_may_do_what_either_may(self):
        for either in (lambda a, b: choice(num(1), a, b), lambda a, b: change(1, a, b)):
            self.assert_does_not_wait(either(nothing(), wait(num(1))))
            self.assert_does_not_wait(either(wait(num(1)), nothing()))
            self.assert_waits(either(wait(num(1)), fail(num(1))))
            self.assert_does_not_wait(catch(1, either(fail(num(1)), wait(num(1))), nothing()))
            self.assert_does_not_wait(catch(1, either(wait(num(1)), fail(num(1))), nothing()))
            self.assert_waits(catch(1, either(wait(num(1)), listen(1, 1)), nothing()))

    def test_9_may_end_well_and_fail_if_its_inner_may(self):
        self.assert_does_not_wait(loop(num(1), wait(num(1))))
        self.assert_does_not_wait(then(loop(num(1), wait(num(1))), nothing()))
        self.assert_waits(then(loop(num(1), wait(num(1))), wait(num(1))))
        failing = then(loop(num(1), fail(num(1))), wait(num(1)))
        waiting = then(loop(num(1), wait(num(1))), wait(num(1)))
        self.assert_does_not_wait(catch(1, failing, nothing()))
        self.assert_waits(catch(1, waiting, nothing()))

    def test_10_well_if_both_may_and_fails_if_either_may(self):
        self.assert_does_not_wait(beside(nothing(), nothing()))
        self.assert_waits(beside(nothing(), wait(num(1))))
        self.assert_waits(beside(wait(num(1)), nothing()))
        self.assert_waits(beside(fail(num(1)), nothing()))
        self.assert_does_not_wait(catch(1, beside(fail(num(1)), wait(num(1))), nothing()))
        self.assert_does_not_wait(catch(1, beside(wait(num(1)), fail(num(1))), nothing()))
        self.assert_waits(catch(1, beside(wait(num(1)), wait(num(1))), nothing()))

    def test_11_as_its_first(self):
        self.assert_does_not_wait(limit(num(1), nothing(), wait(num(1))))
        self.assert_waits(limit(num(1), wait(num(1)), nothing()))
        self.assert_does_not_wait(catch(1, limit(num(1), fail(num(1)), wait(num(1))), nothing()))
        self.assert_waits(catch(1, limit(num(1), wait(num(1)), fail(num(1))), nothing()))

    def test_12_well_if_its_first_may_or_fails_and_its_second_may(self):
        self.assert_does_not_wait(catch(1, nothing(), wait(num(1))))
        self.assert_does_not_wait(catch(1, fail(num(1)), nothing()))
        self.assert_waits(catch(1, fail(num(1)), wait(num(1))))
        self.assert_waits(catch(1, wait(num(1)), nothing()))
        self.assert_waits(catch(1, wait(num(1)), fail(num(1))))

    def test_12_fails_if_both_may(self):
        self.assert_does_not_wait(catch(1, catch(2, fail(num(1)), fail(num(2))), nothing()))
        self.assert_waits(catch(1, catch(2, fail(num(1)), wait(num(2))), nothing()))
        self.assert_waits(catch(1, catch(2, wait(num(1)), fail(num(2))), nothing()))

    def test_13_as_its_inner(self):
        self.assert_does_not_wait(deal(nothing()))
        self.assert_waits(deal(wait(num(1))))
        self.assert_does_not_wait(catch(1, deal(fail(num(1))), nothing()))
        self.assert_waits(catch(1, deal(wait(num(1))), nothing()))

    def test_wherever_the_loop_stands(self):
        for text in (then(BAD_LOOP, nothing()), then(fail(num(1)), BAD_LOOP), choice(num(0), BAD_LOOP, nothing()),
                     choice(num(1), nothing(), BAD_LOOP), loop(num(1), then(wait(num(1)), BAD_LOOP)),
                     beside(BAD_LOOP, nothing()), beside(nothing(), BAD_LOOP), limit(num(1), BAD_LOOP, nothing()),
                     limit(num(1), nothing(), BAD_LOOP), catch(1, BAD_LOOP, nothing()), catch(1, nothing(), BAD_LOOP),
                     deal(BAD_LOOP), change(1, BAD_LOOP, nothing()), change(1, nothing(), BAD_LOOP)):
            self.assert_refused(0, text, [], -33)
            self.assert_each(-33, text, [], [0], [])


class Nexts(RefusalCase):
    TEXT = loop(num(1), listen(0, 1))

    def assert_no_next(self, e):
        self.assertEqual(self.answer(next_of, 0, self.TEXT, [], [0], [], e), [-22], e)

    def test_not_one_three_as_told(self):
        for e in NO_NEXT:
            self.assert_no_next(e)

    def test_no_numbers_one_two_four(self):
        for happening in ([0, 0, 0], [1, 0, 0], [2, 0, 0], [3, 0, 0], [4, 0, 0], [5, 0, 0]):
            for length in range(3):
                self.assert_no_next(happening[:length])
            self.assert_no_next(happening + [0])
            self.assertNotEqual(self.answer(next_of, 0, self.TEXT, [], [0], [], happening), [-22])

    def test_each_kind_with_what_its_numbers_may_not_be(self):
        most = WHOLE - 1
        for kind in (2, 3):
            for x in (1, 2, most):
                for i in (0, 1, most):
                    self.assert_no_next([kind, i, x])
        for i, x in ((1, 0), (0, 1), (1, 1), (most, 0), (0, most), (most, most)):
            self.assert_no_next([5, i, x])
        for kind in (6, 7, 8, most):
            self.assert_no_next([kind, 0, 0])

    def test_any_i_and_x_and_c(self):
        most = WHOLE - 1
        for e in ([0, most, most], [1, most, most], [2, most, 0], [3, most, 0], [4, most, most], [4, 4, 0]):
            self.assertEqual(self.answer(next_of, 0, self.TEXT, [], [0], [], e), [-16])

    def test_behind_sixty_happenings(self):
        sixty = word(0, 1) * 60
        self.assertEqual(self.answer(next_of, 0, self.TEXT, sixty, [0] * 61, [], word(0, 1)), [0])
        self.assertEqual(self.answer(next_of, 0, self.TEXT, sixty, [0] * 61, [], [6, 0, 0]), [-22])


class Order(RefusalCase):
    def test_malformed_ahead_of_a_loop(self):
        self.assert_refused(0, BAD_LOOP + [0], [], -22)
        self.assert_refused(0, then(BAD_LOOP, [15]), [], -22)
        self.assert_refused(0, BAD_LOOP, [[6, 0, 0]], -22)
        self.assert_refused(0, BAD_LOOP, [word(0, 1)] * 61, -22)
        for h, sizes, bids in (([6, 0, 0], [0, 0], []), ([], [0, 0], []), ([], [1], []), ([], [1], [7, 0, 0, 0])):
            self.assert_each(-22, BAD_LOOP, h, sizes, bids)
        for text in (BAD_LOOP + [0], then(BAD_LOOP, [15])):
            self.assert_each(-22, text, [], [1], ended_well())

    def test_a_loop_ahead_of_what_could_not_happen(self):
        self.assert_refused(0, BAD_LOOP, [[0, 5, 0]], -33)
        self.assert_each(-33, BAD_LOOP, [0, 5, 0], [1, 0], ended_well())

    def test_a_loop_ahead_of_whether_the_book_fits(self):
        self.assert_each(-33, BAD_LOOP, [], [1], ended_well())
        self.assert_each(-33, BAD_LOOP, [], [0], [])
        self.assert_each(-33, then(wait(num(1)), BAD_LOOP), [], [1], timer(1))
        self.assert_each(-33, then(wait(num(1)), BAD_LOOP), [], [1], timer(2))

    def test_malformed_ahead_of_whether_the_book_fits(self):
        self.assert_each(-22, [0, 0], [], [1], ended_well())
        self.assert_each(-22, [0, 0], [], [0], [])
        self.assert_each(-22, nothing(), [6, 0, 0], [1, 0], ended_well())
        self.assert_each(-22, nothing(), [], [2], ended_well())
        self.assert_each(-22, wait(num(1)), [6, 0, 0], [0, 0], [])

    def test_malformed_ahead_of_what_could_not_happen(self):
        self.assert_refused(0, nothing(), [[0, 5, 0], [6, 0, 0]], -22)
        self.assert_refused(0, [0, 0], [[0, 5, 0]], -22)
        self.assert_each(-22, wait(num(1)), joined([[0, 5, 0], [6, 0, 0]]), [1, 0, 0], ask(0, 0))
        self.assert_each(-22, wait(num(1)), [0, 5, 0], [1, 1], timer(1))
        self.assert_each(-22, [0, 0], [0, 5, 0], [1, 0], ended_well())

    def test_a_loop_ahead_of_what_is_no_next(self):
        for e in NO_NEXT:
            self.assertEqual(self.answer(next_of, 0, BAD_LOOP, [], [0], [], e), [-33], e)
            self.assertEqual(self.answer(next_of, 0, BAD_LOOP, [], [1], ended_well(), e), [-33], e)

    def test_a_loop_ahead_of_what_could_not_happen_now(self):
        for text in (BAD_LOOP, then(wait(num(1)), BAD_LOOP)):
            self.assertEqual(self.answer(next_of, 0, text, [], [1], timer(1), [0, 5, 0]), [-33])

    def test_no_book_ahead_of_a_loop_and_of_what_is_next(self):
        for e in NEXT + NO_NEXT:
            self.assertEqual(self.answer(next_of, 0, BAD_LOOP, [], [1], [], e), [-22], e)
            self.assertEqual(self.answer(next_of, 0, nothing(), [], [2], ended_well(), e), [-22], e)
            self.assertEqual(self.answer(next_of, 0, [0, 0], [], [1], ended_well(), e), [-22], e)

    def test_no_next_ahead_of_whether_the_book_fits(self):
        for e in NO_NEXT:
            self.assertEqual(self.answer(next_of, 0, wait(num(1)), [], [1], timer(2), e), [-22], e)
            self.assertEqual(self.answer(next_of, 0, wait(num(1)), [0, 5, 0], [1, 0], timer(1), e), [-22], e)

    def test_no_next_ahead_of_what_could_not_happen_now(self):
        for e in ([2, 5, 1], [3, 5, 1], [6, 5, 0], [4, 9, 1, 4], [0, 5]):
            self.assertEqual(self.answer(next_of, 0, wait(num(1)), [], [1], timer(1), e), [-22], e)
        for e in ([5, 0, 1], [2, 0, 1], [3, 0, 1], [4, 0]):
            self.assertEqual(self.answer(next_of, 0, nothing(), [], [1], ended_well(), e), [-22], e)

    def test_whether_the_book_fits_ahead_of_what_could_not_happen_now(self):
        for e in ([0, 5, 0], [1, 5, 0], [2, 0, 0], [3, 5, 0], [4, 9, 0]):
            self.assertEqual(self.answer(next_of, 0, wait(num(1)), [], [1], timer(1), e), [-16], e)
            self.assertEqual(self.answer(next_of, 0, wait(num(1)), [], [1], timer(2), e), [-34], e)
            self.assertEqual(self.answer(next_of, 0, wait(num(1)), [0, 5, 0], [1, 0], timer(1), e), [-34], e)
        self.assertEqual(self.answer(next_of, 0, nothing(), [], [0], [], [5, 0, 0]), [-34])
        self.assertEqual(self.answer(next_of, 0, nothing(), [], [1], ended_well(), [5, 0, 0]), [-16])
