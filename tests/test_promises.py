"""The promises over the whole program, at tables, messages and hands drawn at random."""

import random
import unittest
from fractions import Fraction

from helper import (
    GREATEST_TIME,
    can_send,
    drawn_message,
    drawn_table,
    drawn_times,
    drawn_unit,
    sent_units,
    text,
    units_otherwise,
)
from lampspeech.lamps import judge, many, nth, pattern, send, units

CALLS = 250


def told_table(t):
    """The table of a text, as the calls tell it: letters and patterns."""
    table = []
    for letter in range(256):
        answer = pattern(letter, t)
        if answer[0] == 0:
            table.append((letter, "".join(".-"[answer[2] >> place & 1] for place in range(answer[1]))))
    return table


def written(table):
    return text(*[chr(letter) + " " + signs for letter, signs in table])


def told_readings(t, times):
    """All readings as the calls tell them: the message, its least unit and its greatest."""
    readings = []
    for i in range(many(t, times)[0]):
        size, least_above, least_below, greatest_above, greatest_below, *s = nth(i, t, times)
        readings.append((s, Fraction(least_above, least_below), Fraction(greatest_above, greatest_below)))
    return readings


def told_units(unit, times):
    """The units of the times as the call tells them; as the document does, where the call takes no such unit."""
    if max(unit.numerator, unit.denominator) > GREATEST_TIME:
        return units_otherwise(unit, times)
    return units(unit.numerator, unit.denominator, times)[1:]


def drawn_rows(seed):
    """Tables, messages, units, and times that a hand sends of these, drawn at random."""
    draw = random.Random(seed)
    for number in range(CALLS):
        t = drawn_table(draw)
        s = drawn_message(draw, t, draw.choice((1, 1, 2, 3, 6, 20)))
        counts = sent_units(t, s)
        unit = drawn_unit(draw, counts)
        yield t, s, unit, drawn_times(draw, unit, counts)


class Promises(unittest.TestCase):
    def test_1_a_table_has_one_text(self):
        draw = random.Random(1)
        for number in range(40):
            t = drawn_table(draw)
            self.assertEqual(written(told_table(t)), t)
            self.assertEqual(judge(t), [len(told_table(t))])

    def test_1_a_text_tells_one_table(self):
        draw = random.Random(10)
        for number in range(150):
            t = drawn_table(draw)
            t[draw.randrange(len(t))] = draw.choice((10, 32, 45, 46, draw.randrange(256)))
            if judge(t)[0] > 0:
                self.assertEqual(written(told_table(t)), t)
            else:
                self.assertEqual(told_table(t), [])

    def test_2_what_a_hand_sends_is_among_the_readings(self):
        for t, s, unit, times in drawn_rows(2):
            readings = told_readings(t, times)
            among = [reading for reading in readings if reading[0] == s]
            self.assertEqual(len(among), 1, (t, s, times))
            self.assertLessEqual(among[0][1], unit)
            self.assertGreaterEqual(among[0][2], unit)

    def test_3_each_reading_can_be_sent_so_by_just_the_units_told(self):
        draw = random.Random(30)
        for t, s, unit, times in drawn_rows(3):
            for message, least, greatest in told_readings(t, times):
                counts = sent_units(t, message)
                between = least + (greatest - least) * Fraction(draw.randint(0, 1000), 1000)
                for within in (least, greatest, between):
                    self.assertTrue(can_send(within, counts))
                    self.assertEqual(told_units(within, times), counts)
                for without in (least * Fraction(10**6 - 1, 10**6), greatest * Fraction(10**6 + 1, 10**6)):
                    self.assertNotEqual(told_units(without, times), counts)

    def test_4_a_message_with_a_short_and_a_long_has_one_reading(self):
        tried = 0
        for t, s, unit, times in drawn_rows(4):
            if {1, 3} <= set(sent_units(t, s)[::2]):
                tried += 1
                self.assertEqual([reading[0] for reading in told_readings(t, times)], [s])
        self.assertGreater(tried, CALLS // 2)

    def test_5_no_more_than_two_readings(self):
        draw = random.Random(5)
        # All patterns of one or two signs, so that most rows of one sort have both their readings.
        t = text("A .", "B -", "C ..", "D .-", "E -.", "F --")
        found = []
        for number in range(8 * CALLS):
            pool = draw.choice(((8, 9, 10, 11, 12), (8, 12, 21, 24, 28, 36), (10, 25, 30), (3, 7, 8), (1, 2, 3, 4, 7)))
            times = [draw.choice(pool) for place in range(draw.choice((1, 3, 5, 7)))]
            readings = told_readings(t, times)
            found.append(len(readings))
            self.assertLessEqual(len(readings), 2)
            if len(readings) == 2:
                self.assertEqual({len(set(sent_units(t, reading[0])[::2])) for reading in readings}, {1}, times)
                # Greater units first, and none that is a unit of both.
                self.assertGreater(readings[0][1], readings[1][2])
        self.assertEqual(set(found), {0, 1, 2})

    def test_6_sent_and_read_it_is_the_message(self):
        draw = random.Random(60)
        for number in range(CALLS):
            t = drawn_table(draw)
            s = drawn_message(draw, t, draw.choice((1, 2, 5, 50, 1024)))
            unit = draw.choice((1, 60, draw.randint(1, 134217728)))
            times = send(unit, t, s)[1:]
            bounds = (s, Fraction(5 * unit, 6), Fraction(5 * unit, 4))
            self.assertEqual(told_readings(t, times).count(bounds), 1)
            self.assertEqual(units(unit, 1, times)[1:], sent_units(t, s))


if __name__ == "__main__":
    unittest.main()
