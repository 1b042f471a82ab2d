"""What holds of every text and book, at many of them, the same ones each time."""

import random

from bookagain.errand import fits, writes
from helper import BookCase, WHOLE
from helper import num, var, plus, nothing, put, step, wait, listen, send, fail, then, choice, loop, beside
from helper import limit, catch, deal, change


def any_text(dice, levels):
    if levels == 0:
        return dice.choice([nothing(), put(dice.randrange(4), plus(var(1), num(3))), wait(num(dice.randrange(9))),
                            step(dice.randrange(8), var(dice.randrange(4)), dice.randrange(4), dice.randrange(9)),
                            listen(dice.randrange(2), dice.randrange(4)), send(num(4), 2, var(2)), fail(var(1))])
    a = any_text(dice, levels - 1)
    b = any_text(dice, dice.randrange(levels))
    e = dice.choice([num(0), num(3), var(dice.randrange(4))])
    return dice.choice([then(a, b), then(b, a), choice(e, a, b), loop(e, then(listen(1, 1), a)), beside(a, b), beside(b, a),
                        limit(e, a, b), catch(1, a, b), deal(then(a, b)), change(dice.randrange(2), a, b)])


def any_happening(dice, count):
    """A happening, by the bids so far more likely one that could happen."""
    i = dice.randrange(count + 1)
    return dice.choice([[0, i, dice.randrange(5)], [0, i, dice.randrange(5)], [1, i, dice.randrange(5)], [2, i, 0], [3, i, 0],
                        [3, i, 0], [4, dice.randrange(4), dice.randrange(9)], [5, 0, 0]])


def split(told, h):
    """Sizes and bids of what writes has told."""
    count = len(h) // 3 + 1
    return told[1:count + 1], told[count + 1:]


class Holds(BookCase):
    def any_book(self, dice):
        text = any_text(dice, dice.randrange(1, 5))
        x = dice.choice([0, 1, 5, WHOLE - 1])
        h = []
        told = writes(x, text, h)
        for turn in range(40):
            happening = any_happening(dice, len(told) // 4) if told[0] > 0 else []
            longer = writes(x, text, h + happening)
            if longer[0] > 0 and len(h) < 60:
                h, told = h + happening, longer
        return x, text, h, told

    def books(self, seed):
        dice = random.Random(seed)
        for turn in range(150):
            x, text, h, told = self.any_book(dice)
            if told[0] > 0:
                self.assertEqual(told[0], len(told) - 1)
                sizes, bids = split(told, h)
                yield dice, x, text, h, sizes, bids

    def test_what_a_text_writes_fits_it(self):
        for dice, x, text, h, sizes, bids in self.books(1):
            self.assertEqual(self.answer(fits, x, text, h, sizes, bids), [-6])

    def test_what_is_written_stays_as_more_happens(self):
        for dice, x, text, h, sizes, bids in self.books(2):
            for count in range(len(sizes)):
                ahead = sizes[:count + 1]
                wanted = ahead + bids[:4 * sum(ahead)]
                self.assertEqual(writes(x, text, h[:3 * count]), [len(wanted)] + wanted)

    def test_who_fits_fits_so_far_and_more_pages_mend_nothing(self):
        for dice, x, text, h, sizes, bids in self.books(3):
            if bids:
                changed = list(bids)
                changed[dice.randrange(len(bids))] = dice.randrange(7)
                whole = fits(x, text, h, sizes, changed)[0]
                for count in range(len(sizes)):
                    ahead = sizes[:count + 1]
                    wanted = whole if 0 <= whole <= count else -6
                    so_far = fits(x, text, h[:3 * count], ahead, changed[:4 * sum(ahead)])
                    self.assertEqual(so_far, [wanted])

    def test_every_row_is_answered(self):
        dice = random.Random(4)
        for turn in range(2000):
            text = [dice.randrange(16) for place in range(dice.randrange(30))]
            h = [dice.randrange(7) for place in range(dice.choice([0, 3, 6, 7]))]
            sizes = [dice.randrange(3) for place in range(dice.randrange(5))]
            bids = [dice.randrange(8) for place in range(dice.choice([0, 4, 8, 9]))]
            self.assertIn(self.answer(writes, 0, text, h)[0], [-33, -22, -16] + list(range(1000)))
            self.assertIn(self.answer(fits, 0, text, h, sizes, bids)[0], [-33, -22, -6] + list(range(5)))

    def test_calls_keep_nothing(self):
        first = writes(5, wait(var(0)), [3, 0, 0])
        for text in ([15], loop(num(1), nothing()), step(1, num(1), 1), fail(num(3))):
            writes(7, text, [])
            fits(7, text, [], [0], [])
        self.assertEqual(writes(5, wait(var(0)), [3, 0, 0]), first)
