"""pattern: the signs of a letter, as a count and a number of bits."""

import itertools
import unittest

from helper import NO_TABLES, assert_kept, table_lines, text
from lampspeech.lamps import pattern


def told(signs):
    """What pattern must answer of these signs, told by the digits of a number."""
    return [0, len(signs), int(signs[::-1].replace(".", "0").replace("-", "1"), 2)]


class OrdinaryTables(unittest.TestCase):
    def test_first_middle_and_last_letter(self):
        t = text("1 .----", "A .-", "B -...", "Z --..", "z --")
        self.assertEqual(pattern(49, t), [0, 5, 30])
        self.assertEqual(pattern(65, t), [0, 2, 2])
        self.assertEqual(pattern(66, t), [0, 4, 1])
        self.assertEqual(pattern(90, t), [0, 4, 3])
        self.assertEqual(pattern(122, t), [0, 2, 3])

    def test_sign_0_is_the_lowest_bit(self):
        self.assertEqual(pattern(65, text("A -.......")), [0, 8, 1])
        self.assertEqual(pattern(65, text("A .......-")), [0, 8, 128])
        self.assertEqual(pattern(65, text("A .-......")), [0, 8, 2])

    def test_all_short(self):
        for count in range(1, 9):
            self.assertEqual(pattern(65, text("A " + "." * count)), [0, count, 0])

    def test_all_long(self):
        for count in range(1, 9):
            self.assertEqual(pattern(65, text("A " + "-" * count)), [0, count, 2**count - 1])

    def test_all_patterns(self):
        for count in range(1, 9):
            for chosen in itertools.product(".-", repeat=count):
                signs = "".join(chosen)
                self.assertEqual(pattern(66, text("B " + signs)), told(signs))

    def test_the_signs_themselves_as_letters(self):
        t = text("- ..", ". --")
        self.assertEqual(pattern(45, t), [0, 2, 0])
        self.assertEqual(pattern(46, t), [0, 2, 3])


class Edges(unittest.TestCase):
    def test_a_table_of_one_letter(self):
        t = text("A .-")
        for c in range(300):
            self.assertEqual(pattern(c, t), [0, 2, 2] if c == 65 else [-4], c)

    def test_a_table_of_64_letters(self):
        lines = table_lines(64)
        t = text(*lines)
        for number, line in enumerate(lines):
            self.assertEqual(pattern(33 + number, t), told(line[2:]))
        for c in (32, 97, 98, 126):
            self.assertEqual(pattern(c, t), [-4], c)

    def test_each_letter(self):
        for letter in range(33, 127):
            t = [letter, 32, 45, 46, 45, 45, 10]
            self.assertEqual(pattern(letter, t), [0, 4, 13])
            self.assertEqual(pattern(letter - 1, t), [-4])
            self.assertEqual(pattern(letter + 1, t), [-4])

    def test_least_and_greatest_letter_in_one_table(self):
        t = text("! .", "~ -.")
        self.assertEqual(pattern(33, t), [0, 1, 0])
        self.assertEqual(pattern(126, t), [0, 2, 1])

    def test_long_texts(self):
        t = text("A .-")
        self.assertEqual(pattern(65, t + [10] * (65536 - len(t))), [-6])
        self.assertEqual(pattern(65, t + [10] * (65537 - len(t))), [-2])
        self.assertEqual(pattern(65, t + [10] * (70000 - len(t))), [-2])
        self.assertEqual(pattern(65, [65] * 65536), [-6])
        self.assertEqual(pattern(65, [65] * 65537), [-2])
        self.assertEqual(pattern(65, [65] * 70000), [-2])


class Refused(unittest.TestCase):
    def test_no_such_letter(self):
        t = text("! .", "A .-", "~ -")
        wrong = (0, 10, 32, 34, 45, 46, 64, 66, 125, 127, 255, 256, 256 + 33, 256 + 65, 512 + 65, 65536 + 65)
        for c in wrong + (2**31 + 65, 4294967295):
            self.assertEqual(pattern(c, t), [-4], c)

    def test_no_table_and_nothing_behind_it(self):
        for t in NO_TABLES:
            self.assertEqual(pattern(65, t), [-6], t)
            self.assertEqual(pattern(33, t), [-6], t)

    def test_no_table_ahead_of_no_letter(self):
        for t in NO_TABLES:
            for c in (0, 10, 127, 4294967295):
                self.assertEqual(pattern(c, t), [-6], (c, t))

    def test_too_long_ahead_of_all(self):
        long_table = text("A .-") * 16385
        for t in (long_table, [0] * 65537, [10] * 70000):
            for c in (0, 65, 66, 4294967295):
                self.assertEqual(pattern(c, t), [-2], c)


class HandedIn(unittest.TestCase):
    def test_stays_as_it_was_and_a_second_call_answers_the_same(self):
        t = text("A .-", "B -...")
        cases = ((65, t, [0, 2, 2]), (66, t, [0, 4, 1]), (67, t, [-4]), (65, t[:-1], [-6]), (65, [65] * 70000, [-2]))
        for c, handed, answer in cases + cases[::-1]:
            assert_kept(self, pattern, [c, handed], answer)

    def test_another_table_does_not_linger(self):
        self.assertEqual(pattern(65, text("A .-", "B -...")), [0, 2, 2])
        self.assertEqual(pattern(65, text("A --.")), [0, 3, 3])
        self.assertEqual(pattern(66, text("A --.")), [-4])


if __name__ == "__main__":
    unittest.main()
