"""Promise 13: ROWs, against plain lists of fords, and great ones by rules that must hold."""

import itertools
import random
import unittest

from lastfords.errors import NoNumber
from lastfords.great import (greatest_lot, how_many_joined, islands_in, keeps, last_height, least_water, lot_at, lots_at,
                             waters_of)
from tests.helpers import Case, listed

GREAT = 10 ** 40


def small_rows():
    rows = [(), ((1, 0),), ((3, 0),), ((1, 2), (1, 2)), ((2, 1), (1, 3), (2, 1)), ((1, 0), (1, 0), (1, 1))]
    draw = random.Random(10)
    for _ in range(80):
        rows.append(tuple((draw.randint(1, 3), draw.randint(0, 4)) for _ in range(draw.randint(1, 5))))
    return rows


def great_rows():
    draw = random.Random(11)
    rows = [tuple((GREAT, GREAT - place) for place in range(60)), ((GREAT, 0),), ((GREAT, 5), (1, 5), (GREAT, 7))]
    for _ in range(25):
        rows.append(tuple((draw.choice((1, 2, 10 ** 20, draw.randint(1, GREAT), GREAT)), draw.choice((0, 1, 2, 3, GREAT - 1, GREAT)))
                          for _ in range(draw.randint(1, 60))))
    return rows


def heights_of(row):
    return [height for many, height in row for _ in range(many)]


def plain_lots(row, water):
    """The lots as lists of islands."""
    lots = [[0]]
    for number, height in enumerate(heights_of(row)):
        if height > water:
            lots[-1].append(number + 1)
        else:
            lots.append([number + 1])
    return lots


class SmallTest(Case):

    def test_lots(self):
        for row in small_rows():
            heights = heights_of(row)
            self.assert_same(islands_in(row), len(heights) + 1)
            self.assert_same(waters_of(row), tuple(sorted(set(heights))))
            for water in range(6):
                lots = plain_lots(row, water)
                self.assert_same(lots_at(row, water), len(lots))
                self.assert_same(greatest_lot(row, water), max(map(len, lots)))
                self.assert_same(how_many_joined(row, water), sum(len(lot) * (len(lot) - 1) // 2 for lot in lots))
                for lot in lots:
                    for island in lot:
                        self.assert_same(lot_at(row, island, water), (lot[0], lot[-1]))

    def test_last_height(self):
        for row in small_rows():
            heights = heights_of(row)
            for one, other in itertools.product(range(len(heights) + 1), repeat=2):
                between = heights[min(one, other):max(one, other)]
                self.assertEqual(last_height(row, one, other), min(between, default=None))

    def test_keeps(self):
        for row in small_rows()[:40]:
            pairs = list(itertools.permutations(range(len(heights_of(row)) + 1), 2))
            for first, second in itertools.product(pairs[::3], pairs[::2]):
                expected = all(self.joined(row, second, water) for water in range(6) if self.joined(row, first, water))
                self.assertIs(keeps(row, first, second), expected)

    def joined(self, row, pair, water):
        return any(pair[0] in lot and pair[1] in lot for lot in plain_lots(row, water))

    def test_least_water(self):
        for row in small_rows():
            for lots in range(1, len(heights_of(row)) + 4):
                found = [water for water in range(6) if len(plain_lots(row, water)) >= lots]
                self.assertEqual(least_water(row, lots), found[0] if found else None)

    def test_no_number(self):
        for row in (*small_rows()[::5], *great_rows()[:4]):
            many = islands_in(row)
            for wrong in (-1, many, many + 1, -many, 10 * GREAT * 100, -GREAT):
                self.assert_error(NoNumber(wrong), lot_at, row, wrong, 0)
                self.assert_error(NoNumber(wrong), last_height, row, wrong, 0)
                self.assert_error(NoNumber(wrong), last_height, row, 0, wrong)
                self.assert_error(NoNumber(wrong), last_height, row, wrong, wrong)
                self.assert_error(NoNumber(wrong), last_height, row, wrong, -wrong - 7 if wrong < 0 else -3)
                self.assert_error(NoNumber(wrong), last_height, row=listed(row), one=wrong, other=-many)

    def test_the_first_of_the_islands_in_keeps(self):
        row = ((2, 5), (3, 1))
        for first, second, wrong in (((0, 6), (7, 8), 6), ((-1, 6), (7, 8), -1), ((0, 1), (9, 8), 9), ((0, 1), (1, 8), 8),
                                     ((5, 0), (1, -2), -2), ((9, 0), (0, 1), 9)):
            self.assert_error(NoNumber(wrong), keeps, row, first, second)
            self.assert_error(NoNumber(wrong), keeps, row=listed(row), first=list(first), second=list(second))

    def test_the_empty_row(self):
        self.assertEqual((islands_in(()), last_height((), 0, 0), lots_at((), 0), lot_at((), 0, 5), greatest_lot((), 0),
                          how_many_joined((), 3), waters_of(())), (1, None, 1, (0, 0), 1, 0, ()))
        self.assertEqual((least_water((), 1), least_water((), 2)), (0, None))
        self.assert_error(NoNumber(1), lot_at, (), 1, 0)

    def test_a_ford_of_height_0_never_stands_out(self):
        self.assertEqual((lots_at(((2, 0), (1, 1)), 0), least_water(((2, 0), (1, 1)), 3), least_water(((2, 0), (1, 1)), 4)), (3, 0, 1))


def asked_waters(row):
    heights = sorted({height for _, height in row})[:6]
    return sorted({0, 1, GREAT, *heights, *(height - 1 for height in heights if height)})


def asked_islands(row):
    """Islands at the ends of the runs, beside them, and amid them."""
    ends = list(itertools.accumulate([many for many, _ in row], initial=0))[:12]
    near = {end + step for end in ends for step in (-1, 0, 1)} | {(one + other) // 2 for one, other in zip(ends, ends[1:])}
    return sorted(island for island in near if 0 <= island < islands_in(row))


class GreatTest(Case):

    def test_the_mirrored_row(self):
        for row in great_rows():
            back, end = row[::-1], islands_in(row) - 1
            self.assertEqual((islands_in(back), waters_of(back)), (end + 1, waters_of(row)))
            for water in asked_waters(row):
                self.assertEqual((lots_at(back, water), greatest_lot(back, water), how_many_joined(back, water)),
                                 (lots_at(row, water), greatest_lot(row, water), how_many_joined(row, water)))
                for island in asked_islands(row):
                    first, last = lot_at(row, island, water)
                    self.assertEqual(lot_at(back, end - island, water), (end - last, end - first))
            for one, other in itertools.product(asked_islands(row)[:8], repeat=2):
                self.assertEqual(last_height(row, one, other), last_height(back, end - one, end - other))
                self.assertEqual(last_height(row, one, other), last_height(row, other, one))

    def test_a_run_written_as_two(self):
        for row in great_rows():
            for place, (many, height) in list(enumerate(row))[:4]:
                if many > 1:
                    part = many // 3 + 1 if many > 2 else 1
                    split = (*row[:place], (part, height), (many - part, height), *row[place + 1:])
                    self.check_alike(row, split)

    def check_alike(self, row, split):
        self.assertEqual((islands_in(split), waters_of(split)), (islands_in(row), waters_of(row)))
        islands = asked_islands(split)[:10]
        for water in asked_waters(row):
            self.assertEqual((lots_at(split, water), greatest_lot(split, water), how_many_joined(split, water)),
                             (lots_at(row, water), greatest_lot(row, water), how_many_joined(row, water)))
            for island in islands:
                self.assertEqual(lot_at(split, island, water), lot_at(row, island, water))
            lots = lots_at(row, water)
            for many in (lots, lots + 1):
                self.assertEqual(least_water(split, many), least_water(row, many))
        for one, other in itertools.combinations(islands, 2):
            self.assertEqual(last_height(split, one, other), last_height(row, one, other))

    def test_two_rows_one_behind_the_other(self):
        rows = great_rows()
        for one, other in zip(rows, rows[1:]):
            both, shift = one + other, islands_in(one) - 1
            self.assertEqual(islands_in(both), islands_in(one) + islands_in(other) - 1)
            self.assertEqual(waters_of(both), tuple(sorted({*waters_of(one), *waters_of(other)})))
            for water in asked_waters(both):
                self.assertEqual(lots_at(both, water), lots_at(one, water) + lots_at(other, water) - 1)
                left, right = lot_at(one, shift, water), lot_at(other, 0, water)
                self.assertEqual(lot_at(both, shift, water), (left[0], right[1] + shift))
                met = (left[1] - left[0]) * (right[1] - right[0])
                self.assertEqual(how_many_joined(both, water), how_many_joined(one, water) + how_many_joined(other, water) + met)
                self.assertEqual(greatest_lot(both, water), max(
                    greatest_lot(one, water), greatest_lot(other, water), left[1] - left[0] + right[1] - right[0] + 1))
            for near, far in itertools.product(asked_islands(one)[:5], asked_islands(other)[-5:]):
                parts = [height for height in (last_height(one, near, shift), last_height(other, 0, far)) if height is not None]
                self.assertEqual(last_height(both, near, far + shift), min(parts, default=None))

    def test_joined_is_what_a_lot_tells(self):
        for row in great_rows():
            islands = asked_islands(row)[:8]
            for water in asked_waters(row):
                for one, other in itertools.permutations(islands, 2):
                    first, last = lot_at(row, one, water)
                    self.assertIs(first <= other <= last, last_height(row, one, other) > water)
            for one, other, third in itertools.permutations(islands[:5], 3):
                for fourth in islands[:5]:
                    if fourth != third:
                        self.assertIs(keeps(row, (one, other), (third, fourth)),
                                      last_height(row, one, other) <= last_height(row, third, fourth))

    def test_least_water(self):
        for row in great_rows():
            for water in (0, *waters_of(row)):
                lots = lots_at(row, water)
                self.assertEqual(least_water(row, lots), min(other for other in (0, *waters_of(row)) if lots_at(row, other) >= lots))
                if water > 0 and lots_at(row, water - 1) < lots:
                    self.assertEqual(least_water(row, lots), water)
                    self.assertEqual(least_water(row, lots_at(row, water - 1) + 1), water)
            self.assertIsNone(least_water(row, islands_in(row) + 1))
            self.assertIsNotNone(least_water(row, islands_in(row)))


if __name__ == "__main__":
    unittest.main()
