"""What holds of every text and book, at many of them, the same ones each time."""

import random

from bookagain.errand import fits, meant, next_of, sound, stands, writes
from helper import BookCase, WHOLE
from helper import num, var, plus, nothing, put, step, wait, listen, send, fail, then, choice, loop, beside
from helper import limit, catch, deal, change


def any_text(dice, levels):
    if levels == 0:
        return dice.choice([nothing(), put(dice.randrange(4), plus(var(1), num(3))), wait(num(dice.randrange(9))),
                            step(dice.randrange(8), var(dice.randrange(4)), dice.randrange(4), dice.randrange(9)),
                            listen(dice.randrange(2), dice.randrange(4)), send(num(4), 2, var(2)), fail(var(1))])
    a = any_text(dice, levels - 1)
    b = any_text(dice, dice.randrange(levels))
    e = dice.choice([num(0), num(3), var(dice.randrange(4))])
    return dice.choice([then(a, b), then(b, a), choice(e, a, b), loop(e, then(listen(1, 1), a)), beside(a, b), beside(b, a),
                        limit(e, a, b), catch(1, a, b), deal(then(a, b)), change(dice.randrange(2), a, b)])


def any_happening(dice, count):
    """A happening, by the bids so far more likely one that could happen."""
    i = dice.randrange(count + 1)
    return dice.choice([[0, i, dice.randrange(5)], [0, i, dice.randrange(5)], [1, i, dice.randrange(5)], [2, i, 0], [3, i, 0],
                        [3, i, 0], [4, dice.randrange(4), dice.randrange(9)], [5, 0, 0]])


def split(told, h):
    """Sizes and bids of what writes has told."""
    count = len(h) // 3 + 1
    return told[1:count + 1], told[count + 1:]


class Holds(BookCase):
    def any_book(self, dice):
        text = any_text(dice, dice.randrange(1, 5))
        x = dice.choice([0, 1, 5, WHOLE - 1])
        h = []
        told = writes(x, text, h)
        for turn in range(40):
            happening = any_happening(dice, len(told) // 4) if told[0] > 0 else []
            longer = writes(x, text, h + happening)
            if longer[0] > 0 and len(h) < 60:
                h, told = h + happening, longer
        return x, text, h, told

    def books(self, seed):
        dice = random.Random(seed)
        for turn in range(150):
            x, text, h, told = self.any_book(dice)
            if told[0] > 0:
                self.assertEqual(told[0], len(told) - 1)
                sizes, bids = split(told, h)
                yield dice, x, text, h, sizes, bids

    def test_what_a_text_writes_fits_it(self):
        for dice, x, text, h, sizes, bids in self.books(1):
            self.assertEqual(self.answer(fits, x, text, h, sizes, bids), [-6])

    def test_what_is_written_stays_as_more_happens(self):
        for dice, x, text, h, sizes, bids in self.books(2):
            for count in range(len(sizes)):
                ahead = sizes[:count + 1]
                wanted = ahead + bids[:4 * sum(ahead)]
                self.assertEqual(writes(x, text, h[:3 * count]), [len(wanted)] + wanted)

    def test_who_fits_fits_so_far_and_more_pages_mend_nothing(self):
        for dice, x, text, h, sizes, bids in self.books(3):
            if bids:
                changed = list(bids)
                changed[dice.randrange(len(bids))] = dice.randrange(7)
                whole = fits(x, text, h, sizes, changed)[0]
                for count in range(len(sizes)):
                    ahead = sizes[:count + 1]
                    wanted = whole if 0 <= whole <= count else -6
                    so_far = fits(x, text, h[:3 * count], ahead, changed[:4 * sum(ahead)])
                    self.assertEqual(so_far, [wanted])

    def test_what_a_text_writes_goes_on_as_if_it_had_not_stopped(self):
        for dice, x, text, h, sizes, bids in self.books(5):
            for count in range(len(sizes)):
                ahead = sum(sizes[:count])
                page = bids[4 * ahead:4 * (ahead + sizes[count])]
                longer = bids[:4 * ahead] + [5, 98, 99, 3]
                given = (x, text, h[:3 * count], sizes[:count] + [1], longer)
                self.assertEqual(self.answer(meant, *given), [sizes[count]] + page)
                self.assertEqual(self.answer(stands, *given), [-34])
                if count > 0:
                    happening = h[3 * count - 3:3 * count]
                    given = (x, text, h[:3 * count - 3], sizes[:count], bids[:4 * ahead], happening)
                    self.assertEqual(self.answer(next_of, *given), [sizes[count]] + page)

    def test_what_is_written_is_sound(self):
        for dice, x, text, h, sizes, bids in self.books(8):
            self.assertEqual(self.answer(sound, h, sizes, bids), [1])

    def test_what_is_meant_fits_in_its_place(self):
        for dice, x, text, h, sizes, bids in self.books(6):
            sizes, bids = self.without_some_changes(dice, sizes, bids)
            at = fits(x, text, h, sizes, bids)[0]
            page = self.answer(meant, x, text, h, sizes, bids)
            if page[0] < 0:
                self.assertEqual(page[0], -6 if at == -6 else -16)
            else:
                ahead = bids[:4 * sum(sizes[:at])]
                given = (x, text, h[:3 * at], sizes[:at] + page[:1], ahead + page[1:])
                self.assertEqual(fits(*given), [-6])
                self.assertEqual(meant(*given), [-6])
                self.assertNotEqual(sizes[at:at + 1] + bids[len(ahead):len(ahead) + 4 * sizes[at]], page)

    def without_some_changes(self, dice, sizes, bids):
        kept_sizes, kept = [], []
        for size in sizes:
            page = [bids[at:at + 4] for at in range(0, 4 * size, 4)]
            bids = bids[4 * size:]
            page = [four for four in page if four[0] != 4 or dice.randrange(2)]
            kept_sizes.append(len(page))
            kept.extend(page)
        return kept_sizes, [number for four in kept for number in four]

    def test_where_it_stands(self):
        for dice, x, text, h, sizes, bids in self.books(7):
            for count in range(len(sizes)):
                ahead = sizes[:count + 1]
                told = bids[:4 * sum(ahead)]
                stood = self.answer(stands, x, text, h[:3 * count], ahead, told)
                self.assertEqual(len(stood), 12)
                end = told[-4:] if told[-4:-3] == [6] else [6, 0, 0, 0]
                self.assertEqual(stood[:2], end[1:3])
                self.assertLessEqual(stood[11], h[:3 * count:3].count(4))
                if stood[0] != 0 or 5 in h[:3 * count:3]:
                    self.assertEqual(stood[10], 0)

    def test_every_row_is_answered(self):
        dice = random.Random(4)
        for turn in range(2000):
            text = [dice.randrange(16) for place in range(dice.randrange(30))]
            h = [dice.randrange(7) for place in range(dice.choice([0, 3, 6, 7]))]
            sizes = [dice.randrange(3) for place in range(dice.randrange(5))]
            bids = [dice.randrange(8) for place in range(dice.choice([0, 4, 8, 9]))]
            e = [dice.randrange(7) for place in range(dice.choice([2, 3, 3, 3]))]
            self.assertIn(self.answer(writes, 0, text, h)[0], [-33, -22, -16] + list(range(1000)))
            self.assertIn(self.answer(fits, 0, text, h, sizes, bids)[0], [-33, -22, -6] + list(range(5)))
            page = self.answer(meant, 0, text, h, sizes, bids)
            self.assertTrue(page[0] in (-33, -22, -16, -6) or len(page) == 1 + 4 * page[0])
            page = self.answer(next_of, 0, text, h, sizes, bids, e)
            self.assertTrue(page[0] in (-33, -22, -16, -34) or len(page) == 1 + 4 * page[0])
            self.assertIn(self.answer(sound, h, sizes, bids), [[-22], [0], [1]])
            stood = self.answer(stands, 0, text, h, sizes, bids)
            self.assertTrue(stood in ([-33], [-22], [-34]) or (stood[0] in (0, 1, 2, 3) and len(stood) == 12))

    def test_calls_keep_nothing(self):
        text = then(wait(var(0)), listen(0, 1))
        given = (5, text, [3, 0, 0], [1, 0], [1, 5, 0, 0])
        before = self.answers_of_all(given)
        for other in ([15], loop(num(1), nothing()), step(1, num(1), 1), fail(num(3))):
            self.answers_of_all((7, other, [], [0], []))
            self.answers_of_all((7, other, [4, 0, 8], [1, 0], [0, 1, 1, 0]))
            self.answers_of_all((7, other, [4, 0, 8], [1, 1], [0, 1, 1, 0, 0, 0, 0, 0]))
        self.assertEqual(self.answers_of_all(given), before)

    def answers_of_all(self, given):
        with_text = [call(*given) for call in (fits, meant, stands)]
        return with_text + [writes(*given[:3]), next_of(*given, [4, 0, 8]), sound(*given[2:])]
