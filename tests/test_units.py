"""units: which times are 1, 3 or 7 units of p / q within a fifth."""

import itertools
import random
import unittest
from fractions import Fraction

from helper import GREATEST_TIME, assert_kept, units_otherwise
from lampspeech.lamps import units

GREATEST_PART = 4294967295


class OrdinaryTimes(unittest.TestCase):
    def test_exact_times(self):
        self.assertEqual(units(60, 1, [60, 180, 420]), [0, 1, 3, 7])
        self.assertEqual(units(1, 1, [1, 3, 7]), [0, 1, 3, 7])
        self.assertEqual(units(1000000, 1, [7000000, 3000000, 1000000]), [0, 7, 3, 1])

    def test_uneven_times(self):
        self.assertEqual(units(60, 1, [50, 170, 400, 70, 200, 480]), [0, 1, 3, 7, 1, 3, 7])

    def test_times_of_no_count(self):
        self.assertEqual(units(60, 1, [1, 30, 100, 120, 240, 300, 600, 100000]), [0, 0, 0, 0, 0, 0, 0, 0, 0])

    def test_units_that_are_not_whole(self):
        self.assertEqual(units(5, 2, [1, 2, 3, 4, 6, 9, 10, 14, 21, 22]), [0, 0, 1, 1, 0, 3, 3, 0, 7, 7, 0])
        self.assertEqual(units(1, 3, [1, 2, 3]), [0, 3, 7, 0])
        self.assertEqual(units(1, 7, [1, 2]), [0, 7, 0])
        self.assertEqual(units(1, 9, [1, 2]), [0, 0, 0])

    def test_lowest_terms_or_not(self):
        times = list(range(60))
        for p, q in ((1, 1), (5, 2), (5, 6), (17, 3), (1, 7)):
            for times_more in (2, 3, 60, 100000007):
                self.assertEqual(units(p * times_more, q * times_more, times), units(p, q, times), (p, q, times_more))

    def test_all_small_units_and_times(self):
        times = list(range(80))
        for p, q in itertools.product(range(1, 31), repeat=2):
            self.assertEqual(units(p, q, times), [0] + units_otherwise(Fraction(p, q), times), (p, q))

    def test_places_do_not_matter(self):
        self.assertEqual(units(10, 1, [70, 70, 10, 30]), [0, 7, 7, 1, 3])


class WithinAFifth(unittest.TestCase):
    def test_just_at_the_edges_and_next_to_them(self):
        for m in (1, 2, 10, 1000, 102261125):
            for count in (1, 3, 7):
                low = 4 * count * m
                high = 6 * count * m
                if high < GREATEST_TIME:
                    answer = units(5 * m, 1, [low - 1, low, low + 1, high - 1, high, high + 1])
                    self.assertEqual(answer, [0, 0, count, count, count, count, 0], (m, count))

    def test_edges_of_units_that_are_not_whole(self):
        # By 3 / 8 of 10**9, a time of 7 units has 2.1 to 3.15 * 10**9.
        low = 2100000000
        high = 3150000000
        answer = units(3 * 10**9, 8, [low - 1, low, high, high + 1])
        self.assertEqual(answer, [0, 0, 7, 7, 0])

    def test_where_rounding_would_hide_it(self):
        self.assertEqual(units(5, 4, [1]), [0, 1])
        self.assertEqual(units(4294967295, 3435973836, [1]), [0, 1])
        self.assertEqual(units(4294967295, 3435973837, [1]), [0, 1])
        self.assertEqual(units(4294967295, 3435973835, [1]), [0, 0])
        self.assertEqual(units(3579139412, GREATEST_PART, [1]), [0, 0])
        self.assertEqual(units(3579139413, GREATEST_PART, [1]), [0, 1])
        self.assertEqual(units(3579139414, GREATEST_PART, [1]), [0, 1])

    def test_units_and_times_drawn_at_random(self):
        draw = random.Random(9)
        for number in range(500):
            q = draw.choice((1, 2, 7, 1000, draw.randint(1, GREATEST_PART), GREATEST_PART))
            p = draw.choice((1, 5, 60, draw.randint(1, GREATEST_PART), min(q * 5, GREATEST_PART), GREATEST_PART))
            unit = Fraction(p, q)
            edges = [part * count * unit // 5 for part in (4, 6) for count in (1, 3, 7)]
            near = [int(edge) + step for edge in edges for step in (-1, 0, 1, 2)]
            times = [time for time in near if 0 <= time <= GREATEST_TIME]
            self.assertEqual(units(p, q, times), [0] + units_otherwise(unit, times), (p, q))


class Edges(unittest.TestCase):
    def test_no_times(self):
        for p, q in ((1, 1), (0, 0), (2**64 - 1, 2**64 - 1)):
            self.assertEqual(units(p, q, []), [0])

    def test_any_number_of_times(self):
        for count in (1, 2, 3, 4, 16384, 16385, 16386, 16387, 20000):
            self.assertEqual(units(1, 1, [1] * count), [0] + [1] * count)
        self.assertEqual(units(10, 1, [10, 30, 70, 0] * 5000), [0] + [1, 3, 7, 0] * 5000)

    def test_a_time_0(self):
        for p, q in itertools.product((1, 2, 5, GREATEST_PART), repeat=2):
            self.assertEqual(units(p, q, [0]), [0, 0])
        self.assertEqual(units(1, 1, [0, 1, 0, 3, 0]), [0, 0, 1, 0, 3, 0])

    def test_the_greatest_time(self):
        most = GREATEST_TIME
        self.assertEqual(units(most, 1, [most]), [0, 1])
        self.assertEqual(units(most, 3, [most]), [0, 3])
        self.assertEqual(units(most, 7, [most]), [0, 7])
        self.assertEqual(units(most, 2, [most]), [0, 0])
        self.assertEqual(units(most, 9, [most]), [0, 0])
        self.assertEqual(units(most, most, [most, 1, 3, 7]), [0, 0, 1, 3, 7])
        self.assertEqual(units(1, most, [most, 1]), [0, 0, 0])
        self.assertEqual(units(most, 1, [1, 0]), [0, 0, 0])

    def test_p_and_q(self):
        times = [0, 1, 3, 7, GREATEST_TIME]
        parts = (0, 1, GREATEST_PART - 1, GREATEST_PART, 2**32, 2**32 + 1, 2**63, 2**64 - 2**32, 2**64 - 1)
        for p, q in itertools.product(parts, repeat=2):
            right = 0 < p <= GREATEST_PART and 0 < q <= GREATEST_PART
            answer = units_otherwise(Fraction(p, q), times) if right else [0] * 5
            self.assertEqual(units(p, q, times), [0] + answer, (p, q))

    def test_parts_above_are_no_unit_even_if_it_could_be_written_otherwise(self):
        self.assertEqual(units(4294967295, 4294967295, [1, 3, 7]), [0, 1, 3, 7])
        self.assertEqual(units(4294967296, 4294967296, [1, 3, 7]), [0, 0, 0, 0])
        self.assertEqual(units(18446744073709551615, 18446744073709551615, [1, 3, 7]), [0, 0, 0, 0])
        self.assertEqual(units(4294967296, 1, [4294967295]), [0, 0])
        self.assertEqual(units(1, 4294967296, [0, 1]), [0, 0, 0])

    def test_p_0_makes_no_time_a_count_of_units(self):
        for q in (0, 1, 7, GREATEST_PART, 2**64 - 1):
            self.assertEqual(units(0, q, [0, 1, 3]), [0, 0, 0, 0])
            self.assertEqual(units(q, 0, [0, 1, 3]), [0, 0, 0, 0])


class HandedIn(unittest.TestCase):
    def test_stays_as_it_was_and_a_second_call_answers_the_same(self):
        cases = (
            (5, 1, [5, 4, 15, 0], [0, 1, 1, 3, 0]),
            (5, 2, [], [0]),
            (0, 1, [5, 0], [0, 0, 0]),
            (1, 2**64 - 1, [5], [0, 0]),
        )
        for p, q, times, answer in cases + cases[::-1]:
            assert_kept(self, units, [p, q, times], answer)


if __name__ == "__main__":
    unittest.main()
