"""send: the times that an exact hand sends of a message."""

import itertools
import random
import unittest

from helper import NO_TABLES, assert_kept, drawn_message, drawn_table, sent_units, table_lines, text
from lampspeech.lamps import send

TABLE = text("- -....-", "1 .----", "8 ........", "9 --------", "A .-", "E .", "S ...", "T -", "e ..")
GREATEST_UNIT = 134217728


def message(words):
    return list(words.encode("ascii"))


def sent_otherwise(unit, t, s):
    """What send must answer, told by the painted message."""
    times = [unit * count for count in sent_units(t, s)]
    return [len(times)] + times


class OrdinaryMessages(unittest.TestCase):
    def test_one_letter(self):
        self.assertEqual(send(1, TABLE, message("E")), [1, 1])
        self.assertEqual(send(1, TABLE, message("T")), [1, 3])
        self.assertEqual(send(1, TABLE, message("A")), [3, 1, 1, 3])
        self.assertEqual(send(60, TABLE, message("A")), [3, 60, 60, 180])
        self.assertEqual(send(1, TABLE, message("8")), [15] + [1] * 15)
        self.assertEqual(send(2, TABLE, message("9")), [15] + [6, 2] * 7 + [6])
        self.assertEqual(send(5, TABLE, message("1")), [9, 5, 5, 15, 5, 15, 5, 15, 5, 15])
        self.assertEqual(send(1, TABLE, message("-")), [11, 3, 1, 1, 1, 1, 1, 1, 1, 1, 1, 3])

    def test_one_word(self):
        self.assertEqual(send(1, TABLE, message("ET")), [3, 1, 3, 3])
        self.assertEqual(send(1, TABLE, message("TE")), [3, 3, 3, 1])
        self.assertEqual(send(10, TABLE, message("AE")), [5, 10, 10, 30, 30, 10])
        self.assertEqual(send(1, TABLE, message("EEE")), [5, 1, 3, 1, 3, 1])

    def test_several_words(self):
        self.assertEqual(send(1, TABLE, message("E T")), [3, 1, 7, 3])
        self.assertEqual(send(60, TABLE, message("T E S")), [9, 180, 420, 60, 420, 60, 60, 60, 60, 60])
        self.assertEqual(send(1, TABLE, message("AE TE")), [9, 1, 1, 3, 3, 1, 7, 3, 3, 1])

    def test_letters_differ_by_their_case(self):
        self.assertEqual(send(1, TABLE, message("Ee")), [5, 1, 3, 1, 1, 1])

    def test_all_short_messages_of_a_small_table(self):
        t = text("A .-", "B -", "C ..")
        for count in range(1, 6):
            for chosen in itertools.product(message("ABC "), repeat=count):
                words = bytes(chosen).decode().split(" ")
                right = "" not in words
                self.assertEqual(send(7, t, list(chosen)), sent_otherwise(7, t, chosen) if right else [-1], words)

    def test_messages_and_tables_drawn_at_random(self):
        draw = random.Random(6)
        for number in range(400):
            t = drawn_table(draw)
            s = drawn_message(draw, t, draw.choice((1, 2, 5, 40, 1024)))
            unit = draw.choice((1, 2, 60, draw.randint(1, GREATEST_UNIT), GREATEST_UNIT))
            self.assertEqual(send(unit, t, s), sent_otherwise(unit, t, s))


class Units(unittest.TestCase):
    def test_each_time_is_of_that_unit(self):
        for unit in (1, 2, 3, 60, 1000, 134217727, 134217728):
            self.assertEqual(send(unit, TABLE, message("A T")), [5, unit, unit, 3 * unit, 7 * unit, 3 * unit])

    def test_bounds(self):
        self.assertEqual(send(134217728, TABLE, message("E E")), [3, 134217728, 939524096, 134217728])
        for unit in (0, 134217729, 134217730, 2**31, 2**32 - 134217728, 4294967295):
            self.assertEqual(send(unit, TABLE, message("E E")), [-1], unit)


class Lengths(unittest.TestCase):
    def test_none(self):
        self.assertEqual(send(1, TABLE, []), [-1])

    def test_up_to_1024_bytes(self):
        for count in (1, 2, 1023, 1024):
            self.assertEqual(send(1, TABLE, message("E" * count)), [2 * count - 1] + [1, 3] * (count - 1) + [1])

    def test_more(self):
        for count in (1025, 1026, 2000):
            self.assertEqual(send(1, TABLE, message("E" * count)), [-1])
            self.assertEqual(send(1, TABLE, message("E " * (count // 2) + "E" * (count % 2))), [-1])

    def test_blanks_count(self):
        self.assertEqual(send(1, TABLE, message("E " * 511 + "EE"))[0], 1025)
        self.assertEqual(send(1, TABLE, message("E " * 512 + "E")), [-1])

    def test_the_most_times(self):
        answer = send(GREATEST_UNIT, TABLE, message("9" * 1024))
        self.assertEqual(answer[0], 16383)
        self.assertEqual(len(answer), 16384)
        self.assertEqual(answer, sent_otherwise(GREATEST_UNIT, TABLE, message("9" * 1024)))
        self.assertEqual(send(1, TABLE, message("8" * 1024)), [16383] + ([1] * 15 + [3]) * 1023 + [1] * 15)

    def test_tables_of_one_and_of_64_letters(self):
        self.assertEqual(send(4, text("~ -."), message("~ ~")), [7, 12, 4, 4, 28, 12, 4, 4])
        t = text(*table_lines(64))
        s = list(range(33, 97))
        self.assertEqual(send(3, t, s), sent_otherwise(3, t, s))


class NoMessages(unittest.TestCase):
    def test_blanks(self):
        for wrong in (" ", "  ", " E", "E ", "E  E", " E E", "E E ", "E   T", "ET  ", "  ET", "A E  T S", " " * 1024):
            self.assertEqual(send(1, TABLE, message(wrong)), [-1], wrong)

    def test_a_blank_at_the_edges_of_1024_bytes(self):
        self.assertEqual(send(1, TABLE, message("E" * 1023 + " ")), [-1])
        self.assertEqual(send(1, TABLE, message(" " + "E" * 1023)), [-1])
        self.assertEqual(send(1, TABLE, message("E" * 1022 + " E"))[0], 2045)

    def test_each_byte(self):
        letters = message("-189AESTe")
        for byte in range(256):
            self.assertEqual(send(1, TABLE, [byte])[0] > 0, byte in letters, byte)
            for s in ([byte, 69], [69, byte], [69, 69, byte]):
                self.assertEqual(send(1, TABLE, s)[0] > 0, byte in letters, s)
            self.assertEqual(send(1, TABLE, [69, byte, 69])[0] > 0, byte in letters + [32], byte)

    def test_no_letters_of_the_table(self):
        for wrong in ([10], [0], [69, 10], [69, 0, 69], [46], [65, 255], message("B"), message("E B"), message("a")):
            self.assertEqual(send(1, TABLE, wrong), [-1], wrong)


class Refused(unittest.TestCase):
    def test_no_table_and_nothing_behind_it(self):
        for t in NO_TABLES:
            self.assertEqual(send(1, t, [65]), [-6], t)

    def test_no_table_ahead_of_no_message_and_no_unit(self):
        for t in NO_TABLES:
            for unit, s in ((0, [65]), (1, []), (1, [32]), (4294967295, [0]), (0, [65] * 2000)):
                self.assertEqual(send(unit, t, s), [-6], t)

    def test_long_texts(self):
        self.assertEqual(send(1, TABLE + [10] * (65536 - len(TABLE)), message("E")), [-6])
        self.assertEqual(send(1, TABLE + [10] * (65537 - len(TABLE)), message("E")), [-2])
        self.assertEqual(send(1, TABLE + [10] * (70000 - len(TABLE)), message("E")), [-2])

    def test_too_long_ahead_of_all(self):
        for unit, s in ((1, [65]), (0, [65]), (1, []), (4294967295, [32])):
            self.assertEqual(send(unit, [65] * 65536, s), [-6])
            self.assertEqual(send(unit, [65] * 65537, s), [-2])

    def test_no_message_and_no_unit_at_once(self):
        for unit, s in ((0, []), (134217729, [32]), (4294967295, [0] * 2000)):
            self.assertEqual(send(unit, TABLE, s), [-1])


class HandedIn(unittest.TestCase):
    def test_stays_as_it_was_and_a_second_call_answers_the_same(self):
        cases = (
            (60, TABLE, message("A E"), [5, 60, 60, 180, 420, 60]),
            (1, TABLE, message("T"), [1, 3]),
            (0, TABLE, message("T"), [-1]),
            (1, TABLE, message(" T"), [-1]),
            (1, TABLE[:-1], message("T"), [-6]),
            (1, [65] * 70000, message("T"), [-2]),
        )
        for unit, t, s, answer in cases + cases[::-1]:
            assert_kept(self, send, [unit, t, s], answer)

    def test_another_table_does_not_linger(self):
        self.assertEqual(send(1, text("A .", "B -"), message("AB")), [3, 1, 3, 3])
        self.assertEqual(send(1, text("A -"), message("A")), [1, 3])
        self.assertEqual(send(1, text("A -"), message("AB")), [-1])


if __name__ == "__main__":
    unittest.main()
