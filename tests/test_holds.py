"""What holds of every text and book, at many of them, the same ones each time."""

import random

from bookagain.errand import fits, meant, next_of, open_of, sound, stands, writes
from helper import BookCase, WHOLE, rows_of
from helper import num, var, plus, nothing, put, step, wait, listen, send, fail, then, choice, loop, beside
from helper import limit, catch, deal, change, word


def any_text(dice, levels, make_change=change):
    if levels == 0:
        return dice.choice([nothing(), put(dice.randrange(4), plus(var(1), num(3))), wait(num(dice.randrange(9))),
                            step(dice.randrange(8), var(dice.randrange(4)), dice.randrange(4), dice.randrange(9)),
                            step(dice.randrange(8), num(6), dice.randrange(4), dice.randrange(9)), wait(var(2)),
                            listen(dice.randrange(2), dice.randrange(4)), send(num(4), 2, var(2)), fail(var(1))])
    a = any_text(dice, levels - 1, make_change)
    b = any_text(dice, dice.randrange(levels), make_change)
    e = dice.choice([num(0), num(3), var(dice.randrange(4))])
    return dice.choice([then(a, b), then(b, a), choice(e, a, b), loop(e, then(listen(1, 1), a)), beside(a, b), beside(b, a),
                        limit(e, a, b), catch(1, a, b), deal(then(a, b)), make_change(dice.randrange(2), a, b),
                        make_change(dice.randrange(2), b, a)])


def text_and_as_taken(dice, taken_changes):
    """A text, and the same with just those changes left in it, each other as it was there before."""
    seed, levels = dice.random(), dice.randrange(3, 6)
    text = any_text(random.Random(seed), levels)
    return text, any_text(random.Random(seed), levels, lambda n, a, b: change(n, a, b) if n in taken_changes else b)


def any_happening(dice, count):
    """A happening, by the bids so far more likely one that could happen."""
    i = dice.randrange(count + 1)
    return dice.choice([[0, i, dice.randrange(5)], [0, i, dice.randrange(5)], [1, i, dice.randrange(5)], [2, i, 0], [3, i, 0],
                        [3, i, 0], [4, dice.randrange(4), dice.randrange(9)], [5, 0, 0]])


def split(told, h):
    """Sizes and bids of what writes has told."""
    count = len(h) // 3 + 1
    return told[1:count + 1], told[count + 1:]


class Holds(BookCase):
    def any_book(self, dice, text):
        x = dice.choice([0, 1, 5, WHOLE - 1])
        h = []
        told = writes(x, text, h)
        most = dice.randrange(20)
        for turn in range(60):
            happening = any_happening(dice, len(told) // 4) if told[0] > 0 else []
            longer = writes(x, text, h + happening)
            # One that ends it is left out more often than not, so that not all books are over.
            ends = split(longer, h + happening)[1][-4:-3] == [6]
            if longer[0] > 0 and len(h) < 3 * most and not (ends and dice.randrange(4)):
                h, told = h + happening, longer
        return x, text, h, told

    def books(self, seed):
        dice = random.Random(seed)
        for turn in range(150):
            text = any_text(dice, dice.randrange(1, 5))
            x, text, h, told = self.any_book(dice, text)
            if told[0] > 0:
                self.assertEqual(told[0], len(told) - 1)
                sizes, bids = split(told, h)
                yield dice, x, text, h, sizes, bids

    def books_of_pairs(self, seed):
        """A text, and a book that fits it with some of its changes taken and others not; and the text as it was taken."""
        dice = random.Random(seed)
        for turn in range(200):
            text, as_taken = text_and_as_taken(dice, dice.choice([[], [0], [1]]))
            x, as_taken, h, told = self.any_book(dice, as_taken)
            if told[0] > 0 and writes(x, text, [])[0] > 0:
                sizes, bids = split(told, h)
                yield dice, x, text, as_taken, h, sizes, bids

    def any_next(self, dice, bids):
        return any_happening(dice, len(bids) // 4)

    def test_a_goes_on_as_if_it_had_not_stopped(self):
        for dice, x, text, h, sizes, bids in self.books(9):
            self.assertEqual(self.answer(fits, x, text, h, sizes, bids), [-6])
            stood = self.answer(stands, x, text, h, sizes, bids)
            for turn in range(12):
                e = self.any_next(dice, bids)
                page = self.answer(next_of, x, text, h, sizes, bids, e)
                longer = writes(x, text, h + e)
                if longer[0] > 0:
                    self.assertEqual(split(longer, h + e), (sizes + page[:1], bids + page[1:]))
                elif len(h) < 180:
                    self.assertEqual((page, longer), ([-16], [-16]))
            self.assertEqual(self.answer(stands, x, text, h, sizes, bids), stood)

    def test_a_also_where_changes_were_not_taken(self):
        for dice, x, text, as_taken, h, sizes, bids in self.books_of_pairs(10):
            for turn in range(12):
                e = self.any_next(dice, bids)
                page = self.answer(next_of, x, text, h, sizes, bids, e)
                if page[0] >= 0 and len(h) < 180:
                    longer = (x, text, h + e, sizes + page[:1], bids + page[1:])
                    self.assertEqual(self.answer(fits, *longer), [-6])
                    self.assertEqual(self.answer(meant, *longer), [-6])
                    self.assertEqual(len(self.answer(stands, *longer)), 12)

    def test_b_the_book_alone_tells(self):
        for dice, x, text, h, sizes, bids in self.books(11):
            self.assertEqual(self.answer(sound, h, sizes, bids), [1])
            self.assert_alone_tells(x, text, h, sizes, bids)
        for dice, x, text, as_taken, h, sizes, bids in self.books_of_pairs(12):
            self.assertEqual(self.answer(sound, h, sizes, bids), [1])
            self.assert_alone_tells(x, text, h, sizes, bids)

    def test_c_who_fits_fits_so_far(self):
        for dice, x, text, as_taken, h, sizes, bids in self.books_of_pairs(16):
            for count in range(len(sizes)):
                ahead = sizes[:count + 1]
                given = (x, text, h[:3 * count], ahead, bids[:4 * sum(ahead)])
                self.assertEqual(self.answer(fits, *given), [-6])
                self.assertEqual(meant(*given), [-6])
                self.assertEqual(sound(*given[2:]), [1])
                self.assertGreaterEqual(stands(*given)[0], 0)
                if count < len(sizes) - 1:
                    self.assertGreaterEqual(next_of(*given, h[3 * count:3 * count + 3])[0], 0)

    def test_c_more_pages_mend_nothing(self):
        for dice, x, text, as_taken, h, sizes, bids in self.books_of_pairs(13):
            if len(bids) > 4 and len(h) < 150:
                bids[dice.randrange(len(bids) // 4) * 4 + dice.randrange(1, 4)] += 1
                at = fits(x, text, h, sizes, bids)[0]
                self.assertGreaterEqual(at, 0)
                h, sizes = h + word(0, 1) * 5, sizes + [0] * 5
                page = None
                for count in range(at + 1, len(sizes) + 1):
                    given = (x, text, h[:3 * count - 3], sizes[:count], bids[:4 * sum(sizes[:count])])
                    page = page or meant(*given)
                    self.assertEqual(self.answer(fits, *given), [at])
                    self.assertEqual(self.answer(meant, *given), page)
                    self.assertEqual(self.answer(stands, *given), [-34])
                    self.assertEqual(self.answer(next_of, *given, word(0, 1)), [-34])

    def test_d_two_texts_that_one_book_fits_have_the_same_open(self):
        for dice, x, text, as_taken, h, sizes, bids in self.books_of_pairs(14):
            others = [as_taken, then(nothing(), text), deal(text), choice(num(1), text, fail(num(1))), beside(nothing(), text),
                      change(7, wait(num(1)), text)]
            asks, called_off, timers = rows_of(self.answer(open_of, h, sizes, bids))
            for other in [one for one in others if len(one) <= 160]:
                self.assertEqual(self.answer(fits, x, other, h, sizes, bids), [-6])
                self.assertEqual(stands(x, other, h, sizes, bids), stands(x, text, h, sizes, bids))
                for i in range(len(bids) // 4 + 1):
                    for kind, row in ((0, asks), (1, asks), (2, called_off), (3, timers)):
                        may = next_of(x, other, h, sizes, bids, [kind, i, 0]) != [-16]
                        self.assertEqual(may, i in row, (x, text, other, h, sizes, bids))

    def test_e_a_change_that_was_taken_is_taken_again_and_no_other(self):
        for dice, x, text, as_taken, h, sizes, bids in self.books_of_pairs(15):
            given = (h, sizes, bids)
            self.assertEqual(self.answer(fits, x, text, *given), [-6])
            self.assertEqual(self.answer(meant, x, text, *given), [-6])
            self.assertEqual(self.answer(stands, x, text, *given), self.answer(stands, x, as_taken, *given))
            e = self.any_next(dice, bids)
            may = [next_of(x, one, *given, e) != [-16] for one in (text, as_taken)]
            self.assertEqual(may[0], may[1])

    def test_what_a_text_writes_fits_it(self):
        for dice, x, text, h, sizes, bids in self.books(1):
            self.assertEqual(self.answer(fits, x, text, h, sizes, bids), [-6])

    def test_what_is_written_stays_as_more_happens(self):
        for dice, x, text, h, sizes, bids in self.books(2):
            for count in range(len(sizes)):
                ahead = sizes[:count + 1]
                wanted = ahead + bids[:4 * sum(ahead)]
                self.assertEqual(writes(x, text, h[:3 * count]), [len(wanted)] + wanted)

    def test_who_fits_fits_so_far_and_more_pages_mend_nothing(self):
        for dice, x, text, h, sizes, bids in self.books(3):
            if bids:
                changed = list(bids)
                changed[dice.randrange(len(bids))] = dice.randrange(7)
                whole = fits(x, text, h, sizes, changed)[0]
                for count in range(len(sizes)):
                    ahead = sizes[:count + 1]
                    wanted = whole if 0 <= whole <= count else -6
                    so_far = fits(x, text, h[:3 * count], ahead, changed[:4 * sum(ahead)])
                    self.assertEqual(so_far, [wanted])

    def test_what_a_text_writes_goes_on_as_if_it_had_not_stopped(self):
        for dice, x, text, h, sizes, bids in self.books(5):
            for count in range(len(sizes)):
                ahead = sum(sizes[:count])
                page = bids[4 * ahead:4 * (ahead + sizes[count])]
                longer = bids[:4 * ahead] + [5, 98, 99, 3]
                given = (x, text, h[:3 * count], sizes[:count] + [1], longer)
                self.assertEqual(self.answer(meant, *given), [sizes[count]] + page)
                self.assertEqual(self.answer(stands, *given), [-34])
                if count > 0:
                    happening = h[3 * count - 3:3 * count]
                    given = (x, text, h[:3 * count - 3], sizes[:count], bids[:4 * ahead], happening)
                    self.assertEqual(self.answer(next_of, *given), [sizes[count]] + page)

    def test_what_is_written_is_sound(self):
        for dice, x, text, h, sizes, bids in self.books(8):
            self.assertEqual(self.answer(sound, h, sizes, bids), [1])

    def test_what_is_meant_fits_in_its_place(self):
        for dice, x, text, h, sizes, bids in self.books(6):
            sizes, bids = self.without_some_changes(dice, sizes, bids)
            at = fits(x, text, h, sizes, bids)[0]
            page = self.answer(meant, x, text, h, sizes, bids)
            if page[0] < 0:
                self.assertEqual(page[0], -6 if at == -6 else -16)
            else:
                ahead = bids[:4 * sum(sizes[:at])]
                given = (x, text, h[:3 * at], sizes[:at] + page[:1], ahead + page[1:])
                self.assertEqual(fits(*given), [-6])
                self.assertEqual(meant(*given), [-6])
                self.assertNotEqual(sizes[at:at + 1] + bids[len(ahead):len(ahead) + 4 * sizes[at]], page)

    def without_some_changes(self, dice, sizes, bids):
        kept_sizes, kept = [], []
        for size in sizes:
            page = [bids[at:at + 4] for at in range(0, 4 * size, 4)]
            bids = bids[4 * size:]
            page = [four for four in page if four[0] != 4 or dice.randrange(2)]
            kept_sizes.append(len(page))
            kept.extend(page)
        return kept_sizes, [number for four in kept for number in four]

    def test_where_it_stands(self):
        for dice, x, text, h, sizes, bids in self.books(7):
            for count in range(len(sizes)):
                ahead = sizes[:count + 1]
                told = bids[:4 * sum(ahead)]
                stood = self.answer(stands, x, text, h[:3 * count], ahead, told)
                self.assertEqual(len(stood), 12)
                end = told[-4:] if told[-4:-3] == [6] else [6, 0, 0, 0]
                self.assertEqual(stood[:2], end[1:3])
                self.assertLessEqual(stood[11], h[:3 * count:3].count(4))
                if stood[0] != 0 or 5 in h[:3 * count:3]:
                    self.assertEqual(stood[10], 0)

    def test_every_row_is_answered(self):
        dice = random.Random(4)
        for turn in range(2000):
            text = [dice.randrange(16) for place in range(dice.randrange(30))]
            h = [dice.randrange(7) for place in range(dice.choice([0, 3, 6, 7]))]
            sizes = [dice.randrange(3) for place in range(dice.randrange(5))]
            bids = [dice.randrange(8) for place in range(dice.choice([0, 4, 8, 9]))]
            e = [dice.randrange(7) for place in range(dice.choice([2, 3, 3, 3]))]
            self.assertIn(self.answer(writes, 0, text, h)[0], [-33, -22, -16] + list(range(1000)))
            self.assertIn(self.answer(fits, 0, text, h, sizes, bids)[0], [-33, -22, -6] + list(range(5)))
            page = self.answer(meant, 0, text, h, sizes, bids)
            self.assertTrue(page[0] in (-33, -22, -16, -6) or len(page) == 1 + 4 * page[0])
            page = self.answer(next_of, 0, text, h, sizes, bids, e)
            self.assertTrue(page[0] in (-33, -22, -16, -34) or len(page) == 1 + 4 * page[0])
            self.assertIn(self.answer(sound, h, sizes, bids), [[-22], [0], [1]])
            told = self.answer(open_of, h, sizes, bids)
            self.assertTrue(told == [-22] or len(rows_of(told)) == 3)
            stood = self.answer(stands, 0, text, h, sizes, bids)
            self.assertTrue(stood in ([-33], [-22], [-34]) or (stood[0] in (0, 1, 2, 3) and len(stood) == 12))

    def test_calls_keep_nothing(self):
        text = then(wait(var(0)), listen(0, 1))
        given = (5, text, [3, 0, 0], [1, 0], [1, 5, 0, 0])
        before = self.answers_of_all(given)
        for other in ([15], loop(num(1), nothing()), step(1, num(1), 1), fail(num(3))):
            self.answers_of_all((7, other, [], [0], []))
            self.answers_of_all((7, other, [4, 0, 8], [1, 0], [0, 1, 1, 0]))
            self.answers_of_all((7, other, [4, 0, 8], [1, 1], [0, 1, 1, 0, 0, 0, 0, 0]))
        self.assertEqual(self.answers_of_all(given), before)

    def answers_of_all(self, given):
        with_text = [call(*given) for call in (fits, meant, stands)]
        return with_text + [writes(*given[:3]), next_of(*given, [4, 0, 8]), sound(*given[2:]), open_of(*given[2:])]
