"""many: how many readings a row of times has."""

import itertools
import random
import unittest

from helper import (
    GREATEST_TIME,
    NO_TABLES,
    assert_kept,
    drawn_message,
    drawn_table,
    drawn_times,
    drawn_unit,
    readings_otherwise,
    sent_units,
    table_lines,
    text,
)
from lampspeech.lamps import many, send

TABLE = text("A .-", "E .", "I ..", "M --", "N -.", "S ...", "T -", "o -......-")
SHORTS = text("8 ........", "E .", "I ..", "S ...")
LONGS = text("9 --------", "M --", "O ---", "T -")
MIXED = text("A .-", "N -.")


def message(words):
    return list(words.encode("ascii"))


def sent(words, unit):
    return send(unit, TABLE, message(words))[1:]


class ShortAndLong(unittest.TestCase):
    def test_exact_hands(self):
        for words in ("A", "N", "o", "ET", "TE", "E T", "T E", "AN", "SoS", "TEN MEN IN A TENT", "EA"):
            for unit in (1, 2, 5, 60, 134217728):
                self.assertEqual(many(TABLE, sent(words, unit)), [1], (words, unit))

    def test_uneven_hands(self):
        self.assertEqual(many(TABLE, [50, 60, 170]), [1])
        self.assertEqual(many(TABLE, [60, 41, 144]), [1])
        self.assertEqual(many(TABLE, [6, 6, 12]), [1])
        self.assertEqual(many(TABLE, [4, 4, 18]), [1])
        self.assertEqual(many(TABLE, [200, 70, 60, 160, 50]), [1])

    def test_hands_messages_and_tables_drawn_at_random(self):
        draw = random.Random(7)
        for number in range(400):
            t = drawn_table(draw)
            counts = sent_units(t, drawn_message(draw, t, draw.choice((1, 2, 3, 8, 30))))
            times = drawn_times(draw, drawn_unit(draw, counts), counts)
            answer = many(t, times)
            if {1, 3} <= set(counts[::2]):
                self.assertEqual(answer, [1], (t, times))
            self.assertIn(answer, ([1], [2]), (t, times))


class NoReading(unittest.TestCase):
    def test_no_such_letter(self):
        self.assertEqual(many(SHORTS, [1, 1, 1, 1, 1, 1, 1]), [0])
        self.assertEqual(many(MIXED, [1]), [0])
        self.assertEqual(many(MIXED, [1, 1, 3, 3, 1]), [0])
        self.assertEqual(many(MIXED, [1, 3, 1, 1, 3]), [0])
        self.assertEqual(many(MIXED, [1, 1, 3, 3, 1, 1, 1, 3, 3, 1, 1]), [0])
        self.assertEqual(many(MIXED, [1, 1, 3, 3, 3, 1, 1]), [1])

    def test_a_pattern_that_begins_another_is_another(self):
        self.assertEqual(many(text("A .-."), [1, 1, 3]), [0])
        self.assertEqual(many(text("A .-"), [1, 1, 3, 1, 1]), [0])

    def test_patterns_of_more_than_eight_signs(self):
        self.assertEqual(many(SHORTS, [1] * 15), [1])
        self.assertEqual(many(SHORTS, [1] * 17), [0])
        self.assertEqual(many(SHORTS, [1] * 16385), [0])

    def test_lights_of_seven_units(self):
        for light in range(56, 85):
            self.assertEqual(many(TABLE, [10, 10, light]), [0], light)
            self.assertEqual(many(TABLE, [10, 30, light]), [0], light)
            self.assertEqual(many(TABLE, [light, 10, 10]), [0], light)
        self.assertEqual(many(TABLE, [1, 1, 7]), [0])
        self.assertEqual(many(TABLE, [7, 1, 3]), [0])

    def test_lights_and_darks_of_no_count(self):
        for other in (1, 6, 16, 19, 46, 106, 200):
            self.assertEqual(many(TABLE, [10, 10, 30, other, 10]), [0], other)
            self.assertEqual(many(TABLE, [10, 10, 30, 30, other]), [0], other)
        for dark in (7, 10, 15, 20, 30, 45, 47, 70, 105):
            self.assertEqual(many(text("A .-", "E .", "R .-."), [10, 10, 30, dark, 10]), [1], dark)

    def test_no_one_unit_for_two_times(self):
        self.assertEqual(many(TABLE, [5, 5, 7, 5, 5]), [2])
        self.assertEqual(many(TABLE, [5, 5, 4, 5, 5]), [2])
        self.assertEqual(many(TABLE, [5, 5, 7, 5, 4]), [0])
        self.assertEqual(many(TABLE, [5, 5, 4, 5, 7]), [0])
        self.assertEqual(many(TABLE, [5, 4, 15, 7, 5]), [0])
        self.assertEqual(many(TABLE, [5, 5, 21]), [1])
        self.assertEqual(many(TABLE, [5, 4, 15]), [1])
        self.assertEqual(many(TABLE, [5, 4, 21]), [0])


class OneSort(unittest.TestCase):
    def test_a_light_alone(self):
        for time in (1, 2, 3, 60, GREATEST_TIME):
            self.assertEqual(many(TABLE, [time]), [2])
            self.assertEqual(many(SHORTS, [time]), [1])
            self.assertEqual(many(LONGS, [time]), [1])
            self.assertEqual(many(MIXED, [time]), [0])

    def test_darks_that_are_1_unit_or_3(self):
        self.assertEqual(many(TABLE, [3, 3, 3]), [2])
        self.assertEqual(many(SHORTS, [3, 3, 3]), [1])
        self.assertEqual(many(LONGS, [3, 3, 3]), [1])
        self.assertEqual(many(MIXED, [3, 3, 3]), [0])
        self.assertEqual(many(TABLE, [3, 3, 3, 3, 3]), [2])
        self.assertEqual(many(LONGS + text("a .."), [3, 3, 3]), [2])
        self.assertEqual(many(LONGS + text("a .."), [3, 3, 3, 3, 3]), [1])

    def test_darks_that_are_3_units_or_7(self):
        self.assertEqual(many(TABLE, [3, 8, 3]), [2])
        self.assertEqual(many(TABLE, [3, 3, 3, 8, 3]), [2])
        self.assertEqual(many(SHORTS, [3, 3, 3, 8, 3]), [1])
        self.assertEqual(many(LONGS, [3, 3, 3, 8, 3]), [1])

    def test_darks_that_are_of_one_count_alone(self):
        self.assertEqual(many(TABLE, [3, 1, 3]), [1])
        self.assertEqual(many(TABLE, [3, 9, 3, 21, 3]), [1])
        self.assertEqual(many(TABLE, [3, 21, 3]), [1])
        self.assertEqual(many(SHORTS, [3, 1, 3]), [0])
        self.assertEqual(many(LONGS, [3, 21, 3]), [0])

    def test_two_readings_only_of_lights_of_one_sort(self):
        for times in itertools.product((4, 6, 12, 13, 18), repeat=3):
            answer = many(TABLE, list(times))[0]
            self.assertLessEqual(answer, 2)
            if max(times[::2]) * 2 > min(times[::2]) * 3:
                self.assertLessEqual(answer, 1)


class WithinAFifth(unittest.TestCase):
    """Lights of 4 and 6 m, both short, leave the one unit 5 m: all else is held against that."""

    def test_just_at_the_edges_and_next_to_them(self):
        t = text("A ..-", "B ..", "E .")
        for m in (1, 2, 10, 1000, 51130563):
            held = [4 * m, 5 * m, 6 * m]
            self.assertEqual(many(t, held), [1])
            for count in (1, 3, 7):
                low = 4 * count * m
                high = 6 * count * m
                for time, right in ((low, 1), (high, 1), (low - 1, 0), (high + 1, 0)):
                    if count == 1:
                        self.assertEqual(many(text("A ..."), held + [time, 5 * m]), [right], (m, time))
                    self.assertEqual(many(t + text("a ..."), held + [time, 5 * m]), [right], (m, count, time))
                    if count == 3:
                        self.assertEqual(many(t, held + [5 * m, time]), [right], (m, time))

    def test_two_lights(self):
        self.assertEqual(many(text("I .."), [4, 5, 6]), [1])
        self.assertEqual(many(text("I .."), [6, 5, 4]), [1])
        self.assertEqual(many(text("I .."), [400, 500, 601]), [0])
        self.assertEqual(many(text("I .."), [601, 500, 400]), [0])
        self.assertEqual(many(text("I .."), [399, 500, 600]), [0])
        self.assertEqual(many(text("I .."), [600, 500, 399]), [0])

    def test_a_light_and_a_dark(self):
        t = text("A .-")
        for light, dark, right in ((4, 6, 1), (6, 4, 1), (400, 601, 0), (401, 601, 1), (601, 400, 0), (601, 401, 1)):
            self.assertEqual(many(t, [light, dark, 3 * light]), [right], (light, dark))

    def test_a_short_and_a_long(self):
        t = text("A .-")
        for long_light, right in ((199, 0), (200, 1), (201, 1), (449, 1), (450, 1), (451, 0)):
            self.assertEqual(many(t, [100, 100, long_light]), [right], long_light)


class GreatTimes(unittest.TestCase):
    def test_ones(self):
        self.assertEqual(many(TABLE, [1, 1, 1]), [2])
        self.assertEqual(many(TABLE, [1, 1, 3]), [1])
        self.assertEqual(many(TABLE, [1, 1, 2]), [1])
        self.assertEqual(many(TABLE, [1, 1, 4]), [1])
        self.assertEqual(many(TABLE, [1, 1, 5]), [0])

    def test_the_greatest(self):
        most = GREATEST_TIME
        self.assertEqual(many(TABLE, [most, most, most]), [2])
        self.assertEqual(many(TABLE, [most // 3, most // 3, most]), [1])
        self.assertEqual(many(TABLE, [1, most, 1]), [0])
        self.assertEqual(many(TABLE, [most, 1, most]), [0])
        self.assertEqual(many(TABLE, [most, most, 1]), [0])
        # 2 / 9 of the greatest is 954437176 and two thirds.
        self.assertEqual(many(TABLE, [954437176, 954437176, most]), [0])
        self.assertEqual(many(TABLE, [954437177, 954437177, most]), [1])

    def test_close_to_a_bound_where_rounding_would_hide_it(self):
        self.assertEqual(many(text("I .."), [2863311530, 2863311530, most_of(2863311530)]), [1])
        self.assertEqual(many(text("I .."), [2863311530, 2863311530, most_of(2863311530) - 1]), [1])
        self.assertEqual(many(text("I .."), [2863311529, 2863311529, most_of(2863311530)]), [0])


def most_of(time):
    """The greatest time that still shares a unit with this one, both being of one count."""
    return time * 3 // 2


class CountOfTimes(unittest.TestCase):
    def test_more_than_16385(self):
        for count in (16386, 16387, 19999, 20000):
            self.assertEqual(many(TABLE, [1] * count), [-1], count)

    def test_16383(self):
        lights = send(3, LONGS, message("9" * 1024))[1:]
        self.assertEqual(len(lights), 16383)
        self.assertEqual(many(LONGS, lights), [1])
        self.assertEqual(many(SHORTS, send(1, SHORTS, message("8" * 1024))[1:]), [1])
        self.assertEqual(many(SHORTS, [1] * 16383), [0])

    def test_16385(self):
        self.assertEqual(many(TABLE, [1] * 16385), [0])
        lights = send(3, LONGS, message("9" * 1024))[1:]
        self.assertEqual(many(LONGS, lights + [9, 9]), [0])
        self.assertEqual(many(LONGS, [9, 9] + lights), [0])

    def test_messages_of_1024_bytes_and_of_1025(self):
        self.assertEqual(many(TABLE, [1, 3] * 1023 + [1]), [1])
        self.assertEqual(many(TABLE, [1, 3] * 1024 + [1]), [0])
        self.assertEqual(many(TABLE, [1, 7] * 511 + [1]), [1])
        self.assertEqual(many(TABLE, [1, 7] * 511 + [1, 3, 1]), [1])
        self.assertEqual(many(TABLE, [1, 7] * 512 + [1]), [0])
        self.assertEqual(many(TABLE, [1, 3] * 1022 + [1, 7, 1]), [0])

    def test_the_longer_reading_of_two(self):
        # Letters of two shorts each by the greater unit; words of two letters each by the lesser.
        self.assertEqual(many(TABLE, [3, 3, 3, 8] * 204 + [3, 3, 3]), [2])
        self.assertEqual(many(TABLE, [3, 3, 3, 8] * 341 + [3]), [2])
        self.assertEqual(many(TABLE, [3, 3, 3, 8] * 341 + [3, 3, 3]), [1])
        self.assertEqual(many(TABLE, [3, 8] * 511 + [3, 3, 3]), [2])
        self.assertEqual(many(TABLE, [3, 8] * 512 + [3]), [1])


class FoundOtherwise(unittest.TestCase):
    def test_all_short_rows_of_some_times(self):
        for t in (TABLE, text("E .", "T -", "~ .."), text("A .-")):
            for count in (1, 3):
                for times in itertools.product((1, 2, 3, 4, 6, 7, 8, 9, 12), repeat=count):
                    self.assertEqual(many(t, list(times)), [len(readings_otherwise(t, times))], times)

    def test_rows_drawn_at_random(self):
        draw = random.Random(70)
        for number in range(1500):
            t = draw.choice((TABLE, SHORTS, LONGS, MIXED, drawn_table(draw)))
            pool = draw.choice(((4, 5, 6, 12, 15, 18, 28, 42), (2, 3, 7, 8, 9), range(1, 12), (1, 3), (40, 60, 120)))
            times = [draw.choice(pool) for place in range(draw.choice((1, 3, 5, 7)))]
            self.assertEqual(many(t, times), [len(readings_otherwise(t, times))], (t, times))

    def test_a_time_of_what_a_hand_sent_drawn_anew(self):
        draw = random.Random(71)
        for number in range(300):
            t = drawn_table(draw)
            counts = sent_units(t, drawn_message(draw, t, draw.choice((1, 2, 3))))
            times = drawn_times(draw, drawn_unit(draw, counts), counts)
            place = draw.randrange(len(times))
            times[place] = max(1, times[place] * draw.randint(1, 12) // 5)
            if times[place] <= GREATEST_TIME:
                self.assertEqual(many(t, times), [len(readings_otherwise(t, times))], (t, times))


class Refused(unittest.TestCase):
    def test_no_times(self):
        self.assertEqual(many(TABLE, []), [-1])

    def test_an_even_number(self):
        for count in (2, 4, 100, 16384, 16386, 20000):
            self.assertEqual(many(TABLE, [1] * count), [-1], count)
        self.assertEqual(many(TABLE, sent("TEN", 60)[:-1]), [-1])

    def test_a_time_0(self):
        self.assertEqual(many(TABLE, [0]), [-1])
        for place in range(7):
            times = [1, 1, 1, 3, 1, 1, 1]
            times[place] = 0
            self.assertEqual(many(TABLE, times), [-1], place)
        self.assertEqual(many(TABLE, [1] * 16384 + [0]), [-1])
        self.assertEqual(many(TABLE, [1, 100, 7, 50, 0]), [-1])

    def test_no_table_and_nothing_behind_it(self):
        for t in NO_TABLES:
            self.assertEqual(many(t, [1]), [-6], t)

    def test_no_table_ahead_of_the_times(self):
        for t in NO_TABLES:
            for times in ([], [1, 1], [0], [1] * 16387, [1] * 20000):
                self.assertEqual(many(t, times), [-6], t)

    def test_too_long_ahead_of_all(self):
        for times in ([1], [], [1, 1], [0], [1] * 20000):
            self.assertEqual(many([65] * 65536, times), [-6])
            self.assertEqual(many([65] * 65537, times), [-2])
            self.assertEqual(many([10] * 70000, times), [-2])
            self.assertEqual(many(TABLE * 2000, times), [-2])


class HandedIn(unittest.TestCase):
    def test_stays_as_it_was_and_a_second_call_answers_the_same(self):
        cases = (
            (TABLE, [60, 50, 170], [1]),
            (TABLE, [60], [2]),
            (TABLE, [60, 1, 1], [0]),
            (text(*table_lines(64)), [1] * 13, [1]),
            (TABLE, [60, 0, 60], [-1]),
            (TABLE[:-1], [60], [-6]),
            ([65] * 70000, [60], [-2]),
        )
        for t, times, answer in cases + cases[::-1]:
            assert_kept(self, many, [t, times], answer)


if __name__ == "__main__":
    unittest.main()
