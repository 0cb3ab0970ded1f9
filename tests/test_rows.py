"""Point 4: half of a width, the place of a key, the parts of a row; and of these, point 1."""

import unittest

from btreelog.blocks import half, parts, place


def row(many):
    return [(10 * k, f"v{k}") for k in range(many)]


class HalfTest(unittest.TestCase):
    def test_even_and_odd_widths(self):
        for width, answer in ((3, 2), (4, 2), (5, 3), (6, 3), (7, 4), (8, 4), (31, 16), (32, 16), (63, 32), (64, 32)):
            with self.subTest(width=width):
                self.assertEqual(half(width), answer)

    def test_every_width(self):
        for width in range(3, 65):
            with self.subTest(width=width):
                answer = half(width)
                self.assertIs(type(answer), int)
                # The least number that is no less than the width halved.
                self.assertGreaterEqual(2 * answer, width)
                self.assertLess(2 * (answer - 1), width)


class PlaceTest(unittest.TestCase):
    def check(self, pairs, key, answer):
        for handed in (list(pairs), tuple(pairs)):
            with self.subTest(pairs=handed, key=key):
                told = place(handed, key)
                self.assertEqual(told, answer)
                self.assertIs(type(told), int)

    def test_no_pairs(self):
        for key in (-(10 ** 70), -1, 0, 1, 10 ** 70):
            self.check([], key, 0)

    def test_one_pair(self):
        for key in (-(10 ** 70), 4, 5, 6, 10 ** 70):
            self.check([(5, "a")], key, 0)

    def test_a_key_below_all(self):
        for key in (-1, -100, -(10 ** 60), -(10 ** 70)):
            self.check(row(5), key, 0)

    def test_a_key_above_all(self):
        for key in (41, 1000, 10 ** 60, 10 ** 70):
            self.check(row(5), key, 4)

    def test_the_key_of_a_pair_one_less_and_one_more(self):
        for many in (2, 3, 4, 5, 64, 65):
            for at in range(many):
                self.check(row(many), 10 * at, at)
                self.check(row(many), 10 * at - 1, max(0, at - 1))
                self.check(row(many), 10 * at + 1, at)

    def test_keys_side_by_side(self):
        pairs = [(-2, 5), (-1, 6), (0, 7), (1, 8)]
        for key, answer in ((-3, 0), (-2, 0), (-1, 1), (0, 2), (1, 3), (2, 3)):
            self.check(pairs, key, answer)

    def test_large_keys(self):
        pairs = [(1 - 10 ** 60, 1), (0, 2), (10 ** 60 - 1, 3)]
        for key, answer in ((-(10 ** 60), 0), (1 - 10 ** 60, 0), (-1, 0), (10 ** 60 - 2, 1), (10 ** 60 - 1, 2)):
            self.check(pairs, key, answer)

    def test_a_list_that_is_handed_in_stays_as_it_was(self):
        pairs = row(5)
        place(pairs, 25)
        self.assertEqual(pairs, row(5))


class PartsTest(unittest.TestCase):
    def check(self, pairs, width, answer):
        for handed in (list(pairs), tuple(pairs)):
            with self.subTest(many=len(handed), width=width, kind=type(handed)):
                told = parts(handed, width)
                self.assertEqual(told, answer)
                self.assertIs(type(told), list)
                for part in told:
                    self.assertIs(type(part), tuple)

    def test_no_pairs_are_one_part(self):
        for width in (3, 4, 64):
            self.check([], width, [()])

    def test_a_row_no_longer_than_the_width_is_one_part(self):
        for width in (3, 4, 5, 64):
            for many in (1, 2, width - 1, width):
                self.check(row(many), width, [tuple(row(many))])

    def test_one_more_than_the_width(self):
        self.check(row(4), 3, [tuple(row(4)[:2]), tuple(row(4)[2:])])
        self.check(row(5), 4, [tuple(row(5)[:2]), tuple(row(5)[2:])])
        self.check(row(64), 63, [tuple(row(64)[:32]), tuple(row(64)[32:])])
        self.check(row(65), 64, [tuple(row(65)[:32]), tuple(row(65)[32:])])

    def test_even_and_odd_numbers_above_the_width(self):
        self.check(row(6), 4, [tuple(row(6)[:3]), tuple(row(6)[3:])])
        self.check(row(7), 4, [tuple(row(7)[:3]), tuple(row(7)[3:])])
        self.check(row(8), 5, [tuple(row(8)[:4]), tuple(row(8)[4:])])
        self.check(row(9), 5, [tuple(row(9)[:4]), tuple(row(9)[4:])])

    def test_twice_the_width(self):
        for width in (3, 4, 63, 64):
            pairs = row(2 * width)
            self.check(pairs, width, [tuple(pairs[:width]), tuple(pairs[width:])])

    def test_every_row_of_every_width(self):
        for width in range(3, 65):
            for many in range(2 * width + 1):
                told = parts(row(many), width)
                self.assertEqual([pair for part in told for pair in part], row(many))
                self.assertEqual(len(told), 2 if many > width else 1)
                if many > width:
                    self.assertIn(len(told[1]) - len(told[0]), (0, 1))

    def test_branches_are_parted_alike(self):
        pairs = [(k, k + 1) for k in range(5)]
        self.check(pairs, 4, [((0, 1), (1, 2)), ((2, 3), (3, 4), (4, 5))])

    def test_a_list_that_is_handed_in_stays_as_it_was(self):
        for many in (0, 3, 4, 5, 8):
            pairs = row(many)
            parts(pairs, 4)
            self.assertEqual(pairs, row(many))

    def test_what_was_handed_in_is_not_kept(self):
        for many in (3, 5):
            pairs = row(many)
            told = parts(pairs, 4)
            before = list(told)
            pairs.append((1000, "later"))
            pairs[0] = (-5, "other")
            self.assertEqual(told, before)

    def test_what_is_told_is_the_askers_own(self):
        for many in (0, 3, 5):
            pairs = row(many)
            first = parts(pairs, 4)
            second = parts(pairs, 4)
            first.append("mine")
            first[0] = "mine"
            self.assertEqual(second, parts(row(many), 4))
            self.assertEqual(pairs, row(many))


if __name__ == "__main__":
    unittest.main()
