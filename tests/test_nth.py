"""nth: a reading of a row of times, with the units by which it can be sent so."""

import itertools
import random
import unittest
from fractions import Fraction

from helper import (
    GREATEST_TIME,
    NO_TABLES,
    assert_kept,
    drawn_message,
    drawn_table,
    drawn_times,
    drawn_unit,
    readings_otherwise,
    sent_units,
    text,
    units_otherwise,
)
from lampspeech.lamps import many, nth, send

TABLE = text("A .-", "E .", "I ..", "M --", "N -.", "S ...", "T -", "o -......-")


def message(words):
    return list(words.encode("ascii"))


def told(s, least, greatest):
    """What nth must answer of a reading."""
    low = Fraction(least)
    high = Fraction(greatest)
    return [len(s), low.numerator, low.denominator, high.numerator, high.denominator] + list(s)


def told_of_counts(s, times, counts):
    """What nth must answer of a reading whose times have so many units: the units that all of them let."""
    least = max(Fraction(5 * time, 6 * count) for time, count in zip(times, counts))
    greatest = min(Fraction(5 * time, 4 * count) for time, count in zip(times, counts))
    return told(s, least, greatest)


class OneReading(unittest.TestCase):
    def test_one_letter(self):
        self.assertEqual(nth(0, TABLE, [60, 60, 180]), [1, 50, 1, 75, 1, 65])
        self.assertEqual(nth(0, TABLE, [1, 1, 3]), [1, 5, 6, 5, 4, 65])
        self.assertEqual(nth(0, TABLE, [50, 60, 170]), [1, 50, 1, 125, 2, 65])
        self.assertEqual(nth(0, TABLE, [3, 1, 1]), [1, 5, 6, 5, 4, 78])

    def test_one_word(self):
        self.assertEqual(nth(0, TABLE, [1, 1, 3, 3, 1]), [2, 5, 6, 5, 4, 65, 69])
        self.assertEqual(nth(0, TABLE, [6, 5, 15, 12, 4]), [2, 5, 1, 5, 1, 65, 69])

    def test_several_words(self):
        answer = nth(0, TABLE, [30, 30, 10, 70, 10, 10, 30, 70, 30])
        self.assertEqual(answer, [6, 25, 3, 25, 2] + message("TE A T"))

    def test_where_the_least_unit_is_the_greatest(self):
        self.assertEqual(nth(0, text("I .."), [4, 5, 6]), [1, 5, 1, 5, 1, 73])
        self.assertEqual(nth(0, text("I .."), [6, 5, 4]), [1, 5, 1, 5, 1, 73])
        self.assertEqual(nth(0, text("I .."), [2, 3, 2]), [1, 5, 2, 5, 2, 73])
        self.assertEqual(nth(0, text("A .-"), [2, 2, 4]), [1, 5, 3, 5, 3, 65])
        self.assertEqual(nth(0, text("A .-"), [2, 2, 9]), [1, 5, 2, 5, 2, 65])

    def test_each_place_may_give_the_least_and_the_greatest(self):
        t = text("A .-.", "E .")
        counts = [1, 1, 3, 1, 1, 7, 1, 3, 1]
        for low, high in itertools.permutations(range(9), 2):
            times = [100 * count for count in counts]
            times[low] = 90 * counts[low]
            times[high] = 120 * counts[high]
            self.assertEqual(nth(0, t, times), told(message("A EE"), 100, Fraction(225, 2)), (low, high))

    def test_uneven_hands_drawn_at_random(self):
        draw = random.Random(8)
        for number in range(500):
            t = drawn_table(draw)
            s = drawn_message(draw, t, draw.choice((1, 2, 3, 8, 30, 200)))
            counts = sent_units(t, s)
            unit = drawn_unit(draw, counts)
            times = drawn_times(draw, unit, counts)
            answers = [nth(i, t, times) for i in range(many(t, times)[0])]
            self.assertIn(told_of_counts(s, times, counts), answers)
            if {1, 3} <= set(counts[::2]):
                self.assertEqual(len(answers), 1)


class TwoReadings(unittest.TestCase):
    def test_a_light_alone(self):
        self.assertEqual(nth(0, TABLE, [60]), [1, 50, 1, 75, 1, 69])
        self.assertEqual(nth(1, TABLE, [60]), [1, 50, 3, 25, 1, 84])

    def test_their_order_is_that_of_the_units_not_of_the_table(self):
        for t in (text("E .", "T -"), text("E -", "T .")):
            short = [line[0] for line in bytes(t).splitlines() if line.endswith(b".")][0]
            self.assertEqual(nth(0, t, [12]), [1, 10, 1, 15, 1, short])
            self.assertEqual(nth(1, t, [12]), [1, 10, 3, 5, 1, 69 + 84 - short])

    def test_darks_that_are_1_unit_or_3(self):
        self.assertEqual(nth(0, TABLE, [3, 3, 3]), [1, 5, 2, 15, 4, 73])
        self.assertEqual(nth(1, TABLE, [3, 3, 3]), [2, 5, 6, 5, 4, 84, 84])

    def test_darks_that_are_3_units_or_7(self):
        self.assertEqual(nth(0, TABLE, [3, 8, 3, 3, 3]), told(message("EI"), Fraction(5, 2), Fraction(10, 3)))
        self.assertEqual(nth(1, TABLE, [3, 8, 3, 3, 3]), told(message("T TT"), Fraction(20, 21), Fraction(5, 4)))

    def test_the_second_stands_first_where_the_first_is_none(self):
        self.assertEqual(nth(0, text("T -"), [60]), [1, 50, 3, 25, 1, 84])
        self.assertEqual(nth(1, text("T -"), [60]), [-4])
        self.assertEqual(nth(0, text("E ."), [60]), [1, 50, 1, 75, 1, 69])
        self.assertEqual(nth(1, text("E ."), [60]), [-4])

    def test_the_longer_one_is_none_if_too_long(self):
        times = [3, 3, 3, 8] * 341 + [3, 3, 3]
        self.assertEqual(nth(0, TABLE, times), told(message("I" * 342), Fraction(5, 2), Fraction(10, 3)))
        self.assertEqual(nth(1, TABLE, times), [-4])
        times = [3, 3, 3, 8] * 341 + [3]
        self.assertEqual(nth(0, TABLE, times), told(message("I" * 341 + "E"), Fraction(5, 2), Fraction(10, 3)))
        self.assertEqual(nth(1, TABLE, times), told(message("TT " * 341 + "T"), Fraction(20, 21), Fraction(5, 4)))


class WithinAFifth(unittest.TestCase):
    def test_just_at_the_edges_and_next_to_them(self):
        t = text("A ..-", "B ..", "E .", "S ...")
        ends = {1: message("S"), 3: message("BE"), 7: message("B E")}
        for m in (1, 2, 10, 1000, 51130563):
            held = [4 * m, 5 * m, 6 * m]
            self.assertEqual(nth(0, t, held), told(message("B"), 5 * m, 5 * m))
            for count, s in ends.items():
                for time in (4 * count * m, 6 * count * m):
                    self.assertEqual(nth(0, t, held + [time, 5 * m]), told(s, 5 * m, 5 * m), (m, time))
                for time in (4 * count * m - 1, 6 * count * m + 1):
                    self.assertEqual(nth(0, t, held + [time, 5 * m]), [-4], (m, time))

    def test_times_next_to_the_edges_within(self):
        self.assertEqual(nth(0, text("I .."), [401, 500, 600]), told([73], 500, Fraction(2005, 4)))
        self.assertEqual(nth(0, text("I .."), [400, 500, 599]), told([73], Fraction(2995, 6), 500))
        self.assertEqual(nth(0, text("I .."), [400, 500, 601]), [-4])
        self.assertEqual(nth(0, text("I .."), [399, 500, 600]), [-4])

    def test_just_the_units_from_the_least_to_the_greatest(self):
        draw = random.Random(80)
        for number in range(300):
            t = drawn_table(draw)
            counts = sent_units(t, drawn_message(draw, t, draw.choice((1, 2, 5))))
            times = drawn_times(draw, drawn_unit(draw, counts), counts)
            for i in range(many(t, times)[0]):
                size, above, below, high_above, high_below, *s = nth(i, t, times)
                least = Fraction(above, below)
                greatest = Fraction(high_above, high_below)
                read = sent_units(t, s)
                self.assertLessEqual(least, greatest)
                for unit in (least, (least + greatest) / 2, greatest):
                    self.assertEqual(units_otherwise(unit, times), read)
                for unit in (least * Fraction(10**12 - 1, 10**12), greatest * Fraction(10**12 + 1, 10**12)):
                    self.assertNotEqual(units_otherwise(unit, times), read)


class GreatTimes(unittest.TestCase):
    def test_ones(self):
        self.assertEqual(nth(0, TABLE, [1]), [1, 5, 6, 5, 4, 69])
        self.assertEqual(nth(1, TABLE, [1]), [1, 5, 18, 5, 12, 84])
        self.assertEqual(nth(0, TABLE, [1, 1, 2]), [1, 5, 6, 5, 6, 65])
        self.assertEqual(nth(0, TABLE, [1, 1, 4]), [1, 10, 9, 5, 4, 65])

    def test_the_greatest(self):
        most = GREATEST_TIME
        self.assertEqual(nth(0, TABLE, [most]), [1, 7158278825, 2, 21474836475, 4, 69])
        self.assertEqual(nth(1, TABLE, [most]), [1, 7158278825, 6, 7158278825, 4, 84])
        self.assertEqual(nth(0, TABLE, [954437177, 954437177, most]), [1, 7158278825, 6, 4772185885, 4, 65])
        self.assertEqual(nth(0, TABLE, [954437176, 954437176, most]), [-4])
        self.assertEqual(nth(0, TABLE, [1, most, 1]), [-4])

    def test_great_times_drawn_at_random(self):
        draw = random.Random(81)
        t = text("A .-", "N -.", "a .-.-.-.-", "e .")
        for number in range(300):
            s = drawn_message(draw, t, draw.choice((2, 3, 6)))
            counts = sent_units(t, s)
            unit = Fraction(GREATEST_TIME * 5, 6 * max(counts)) * Fraction(draw.randint(90, 125), 100)
            times = drawn_times(draw, unit, counts)
            self.assertIn(told_of_counts(s, times, counts), [nth(0, t, times), nth(1, t, times)])


class CountOfTimes(unittest.TestCase):
    def test_16383(self):
        t = text("8 ........", "9 -.-.-.-.")
        for s in (message("89" * 512), message("9" * 1024)):
            times = send(134217728, t, s)[1:]
            self.assertEqual(len(times), 16383)
            self.assertEqual(nth(0, t, times), told(s, Fraction(134217728 * 5, 6), 134217728 * Fraction(5, 4)))
            self.assertEqual(nth(1, t, times), [-4])

    def test_16383_uneven(self):
        draw = random.Random(82)
        t = text("8 ........", "9 -.-.-.-.")
        s = message("98" * 512)
        counts = sent_units(t, s)
        for unit in (Fraction(10), Fraction(1000003, 7), Fraction(5 * 10**8)):
            times = drawn_times(draw, unit, counts)
            self.assertEqual(nth(0, t, times), told_of_counts(s, times, counts))
            times[-1] = 1
            self.assertEqual(nth(0, t, times), [-4])

    def test_16385(self):
        t = text("8 ........", "E .", "T -")
        self.assertEqual(nth(0, t, [1] * 16385), [-4])
        self.assertEqual(nth(0, t, send(1, t, message("8" * 1024))[1:] + [3, 1]), [-4])

    def test_messages_of_1024_bytes_and_of_1025(self):
        self.assertEqual(nth(0, TABLE, [1, 3] * 1023 + [1]), [1024, 5, 6, 5, 4] + [69] * 1024)
        self.assertEqual(nth(0, TABLE, [1, 3] * 1024 + [1]), [-4])
        self.assertEqual(nth(0, TABLE, [1, 7] * 511 + [1, 3, 1]), [1024, 5, 6, 5, 4] + [69, 32] * 511 + [69, 69])
        self.assertEqual(nth(0, TABLE, [1, 7] * 512 + [1]), [-4])


class FoundOtherwise(unittest.TestCase):
    def assert_found(self, t, times):
        answers = [told(*reading) for reading in readings_otherwise(t, times)]
        self.assertEqual([nth(i, t, list(times)) for i in range(3)], (answers + [[-4]] * 3)[:3], (t, times))

    def test_all_short_rows_of_some_times(self):
        for t in (TABLE, text("E .", "T -", "~ .."), text("A .-")):
            for count in (1, 3):
                for times in itertools.product((1, 2, 3, 4, 6, 7, 9, 12), repeat=count):
                    self.assert_found(t, times)

    def test_rows_drawn_at_random(self):
        draw = random.Random(83)
        for number in range(1000):
            t = draw.choice((TABLE, text("E .", "T -"), text("I ..", "T -", "m --"), drawn_table(draw)))
            pool = draw.choice(((4, 5, 6, 12, 15, 18, 28, 42), (2, 3, 7, 8, 9), (3, 8), range(1, 12), (1, 3)))
            self.assert_found(t, [draw.choice(pool) for place in range(draw.choice((1, 3, 5, 7)))])


class SentAndRead(unittest.TestCase):
    def test_messages_tables_and_units_drawn_at_random(self):
        draw = random.Random(84)
        for number in range(500):
            t = drawn_table(draw)
            s = drawn_message(draw, t, draw.choice((1, 2, 3, 8, 30, 300, 1024)))
            unit = draw.choice((1, 2, 60, draw.randint(1, 134217728), 134217728))
            times = send(unit, t, s)[1:]
            count = many(t, times)[0]
            # A message of longs alone is the one with the lesser units, if there are two.
            place = 0 if unit in times[::2] else count - 1
            self.assertEqual(nth(place, t, times), told(s, Fraction(5 * unit, 6), Fraction(5 * unit, 4)))
            self.assertEqual(nth(count, t, times), [-4])


class Refused(unittest.TestCase):
    def test_no_such_reading(self):
        for times, count in (([60], 2), ([60, 60, 180], 1), ([60, 60, 600], 0)):
            for i in (0, 1, 2, 3, 255, 256, 65536, 2**31, 4294967294, 4294967295):
                self.assertEqual(nth(i, TABLE, times) == [-4], i >= count, (times, i))

    def test_no_times_an_even_number_and_too_many(self):
        for i in (0, 1, 4294967295):
            for count in (0, 2, 4, 16384, 16386, 16387, 19999, 20000):
                self.assertEqual(nth(i, TABLE, [1] * count), [-1], count)

    def test_a_time_0(self):
        self.assertEqual(nth(0, TABLE, [0]), [-1])
        for place in range(7):
            times = [1, 1, 1, 3, 1, 1, 1]
            times[place] = 0
            for i in (0, 5):
                self.assertEqual(nth(i, TABLE, times), [-1], place)

    def test_no_table_ahead_of_all_but_too_long(self):
        for t in NO_TABLES:
            for i, times in ((0, [1]), (9, [1]), (0, []), (0, [1, 1]), (0, [0]), (9, [1] * 20000)):
                self.assertEqual(nth(i, t, times), [-6], t)

    def test_too_long_ahead_of_all(self):
        for i, times in ((0, [1]), (9, [1]), (0, []), (0, [1, 1]), (9, [0]), (9, [1] * 20000)):
            self.assertEqual(nth(i, [65] * 65536, times), [-6])
            self.assertEqual(nth(i, [65] * 65537, times), [-2])
            self.assertEqual(nth(i, TABLE * 2000, times), [-2])


class HandedIn(unittest.TestCase):
    def test_stays_as_it_was_and_a_second_call_answers_the_same(self):
        cases = (
            (0, TABLE, [60, 50, 170], [1, 50, 1, 125, 2, 65]),
            (0, TABLE, [60], [1, 50, 1, 75, 1, 69]),
            (1, TABLE, [60], [1, 50, 3, 25, 1, 84]),
            (2, TABLE, [60], [-4]),
            (0, TABLE, [60, 0, 60], [-1]),
            (0, TABLE[:-1], [60], [-6]),
            (0, [65] * 70000, [60], [-2]),
        )
        for i, t, times, answer in cases + cases[::-1]:
            assert_kept(self, nth, [i, t, times], answer)


if __name__ == "__main__":
    unittest.main()
