"""judge: how many letters a table has, or what is wrong with its text."""

import itertools
import re
import unittest

from helper import assert_kept, table_lines, text
from lampspeech.lamps import judge

ANY_LINE = re.compile(rb"[^\n]*\n|[^\n]+")
TABLE_LINE = re.compile(rb"([!-~]) ([.-]{1,8})\n")


def judged_otherwise(t):
    """What judge must answer, told by a regular expression over whole lines."""
    letters = []
    seen = []
    for number, line in enumerate(ANY_LINE.findall(bytes(t))):
        found = TABLE_LINE.fullmatch(line)
        if found is None or number == 64:
            return [-6, 1, number]
        if letters and letters[-1] >= found[1]:
            return [-6, 2, number]
        if found[2] in seen:
            return [-6, 3, number]
        letters.append(found[1])
        seen.append(found[2])
    return [len(letters)] if letters else [-6, 1, 0]


def told_table(t):
    """The table that an accepted text tells, as pairs of letter and pattern."""
    return [(line[0], line[2:]) for line in bytes(t).decode("ascii").split("\n")[:-1]]


def written_table(table):
    """The text of a table."""
    return text(*[letter + " " + signs for letter, signs in sorted(table)])


class OrdinaryTables(unittest.TestCase):
    def test_answers_how_many_letters(self):
        self.assertEqual(judge(text("A .-")), [1])
        self.assertEqual(judge(text("A .-", "B -...")), [2])
        self.assertEqual(judge(text("1 .----", "E .", "T -", "e ..", "t --")), [5])

    def test_every_count_of_letters(self):
        for count in range(1, 65):
            self.assertEqual(judge(text(*table_lines(count))), [count])

    def test_a_pattern_that_begins_another_is_another(self):
        self.assertEqual(judge(text("A .", "B ..", "C ...", "D ..-")), [4])

    def test_the_signs_themselves_may_be_letters(self):
        self.assertEqual(judge(text("- .", ". -")), [2])

    def test_answer_is_a_list_of_whole_numbers(self):
        for t in (text("A ."), [], text("A .", "A ."), [10] * 65537):
            answer = judge(t)
            self.assertIs(type(answer), list)
            self.assertEqual({type(number) for number in answer}, {int})


class CountOfLetters(unittest.TestCase):
    def test_sixty_four(self):
        self.assertEqual(judge(text(*table_lines(64))), [64])

    def test_a_65th_line_that_is_else_right(self):
        self.assertEqual(judge(text(*table_lines(65))), [-6, 1, 64])
        self.assertEqual(judge(text(*table_lines(66))), [-6, 1, 64])

    def test_a_65th_line_that_is_wrong_otherwise_too(self):
        lines = table_lines(64)
        for wrong in ("! --------", lines[63], "~ " + lines[0][2:], "", "nonsense", "~ "):
            self.assertEqual(judge(text(*lines, wrong)), [-6, 1, 64], wrong)

    def test_a_65th_line_without_its_byte_10(self):
        self.assertEqual(judge(text(*table_lines(64)) + [126]), [-6, 1, 64])
        self.assertEqual(judge(text(*table_lines(65))[:-1]), [-6, 1, 64])

    def test_the_64th_line_is_still_told_by_its_kind(self):
        lines = table_lines(63)
        self.assertEqual(judge(text(*lines, "!", "x")), [-6, 1, 63])
        self.assertEqual(judge(text(*lines, "! --------", "x")), [-6, 2, 63])
        self.assertEqual(judge(text(*lines, "~ " + lines[0][2:], "x")), [-6, 3, 63])


class Letters(unittest.TestCase):
    def test_each_byte_as_a_letter(self):
        for byte in range(256):
            right = 33 <= byte <= 126
            self.assertEqual(judge([byte, 32, 46, 10]), [1] if right else [-6, 1, 0], byte)

    def test_bounds_in_one_table(self):
        self.assertEqual(judge(text("! .", "~ -")), [2])
        self.assertEqual(judge(text("! .") + [127, 32, 45, 10]), [-6, 1, 1])
        self.assertEqual(judge([32, 32, 46, 10] + text("! -")), [-6, 1, 0])

    def test_equal_to_the_one_before(self):
        self.assertEqual(judge(text("A .", "A -")), [-6, 2, 1])

    def test_below_the_one_before(self):
        self.assertEqual(judge(text("B .", "A -")), [-6, 2, 1])
        self.assertEqual(judge(text("A .", "C -", "B ..")), [-6, 2, 2])

    def test_equal_to_one_further_before(self):
        self.assertEqual(judge(text("A .", "B -", "A ..")), [-6, 2, 2])

    def test_each_pair_of_letters(self):
        for first in range(33, 127):
            for second in range(33, 127):
                answer = judge([first, 32, 46, 10, second, 32, 45, 10])
                self.assertEqual(answer, [2] if second > first else [-6, 2, 1])


class Patterns(unittest.TestCase):
    def test_counts_of_signs(self):
        for count in range(0, 12):
            for sign in ".-":
                right = 1 <= count <= 8
                self.assertEqual(judge(text("A " + sign * count)), [1] if right else [-6, 1, 0], count)

    def test_all_patterns(self):
        for count in range(1, 9):
            for signs in itertools.product(".-", repeat=count):
                self.assertEqual(judge(text("A " + "".join(signs))), [1])

    def test_each_byte_at_each_place_of_a_pattern(self):
        for place in range(3):
            for byte in range(256):
                t = text("A ..-")
                t[2 + place] = byte
                right = byte in (45, 46)
                # A byte 10 behind the first sign ends line 0 rightly: what is left is a wrong line 1.
                wrong = 1 if byte == 10 and place > 0 else 0
                self.assertEqual(judge(t), [1] if right else [-6, 1, wrong], (place, byte))

    def test_in_the_line_before(self):
        self.assertEqual(judge(text("A .-", "B .-")), [-6, 3, 1])

    def test_several_lines_before(self):
        self.assertEqual(judge(text("A .-", "B -", "C ..", "D --", "E .-")), [-6, 3, 4])
        self.assertEqual(judge(text("A -", "B .-", "C ..", "D --", "E .-")), [-6, 3, 4])

    def test_of_eight_signs_that_differ_in_one(self):
        self.assertEqual(judge(text("A ........", "B .......-", "C -.......")), [3])
        self.assertEqual(judge(text("A ........", "B .......-", "C .......-")), [-6, 3, 2])


class Lines(unittest.TestCase):
    def test_the_empty_text(self):
        self.assertEqual(judge([]), [-6, 1, 0])

    def test_one_byte_10_alone(self):
        self.assertEqual(judge([10]), [-6, 1, 0])

    def test_one_other_byte_alone(self):
        for byte in (0, 32, 45, 46, 65, 255):
            self.assertEqual(judge([byte]), [-6, 1, 0])

    def test_an_empty_line(self):
        self.assertEqual(judge(text("", "A .")), [-6, 1, 0])
        self.assertEqual(judge(text("A .", "", "B -")), [-6, 1, 1])
        self.assertEqual(judge(text("A .", "B -", "")), [-6, 1, 2])

    def test_byte_10_missing_behind_the_last_line(self):
        self.assertEqual(judge(text("A .")[:-1]), [-6, 1, 0])
        self.assertEqual(judge(text("A .", "B -")[:-1]), [-6, 1, 1])

    def test_bytes_behind_the_last_byte_10(self):
        for rest in ("A", " ", "B -", "B -.", "B -........"):
            self.assertEqual(judge(text("A .") + list(rest.encode())), [-6, 1, 1], rest)

    def test_each_byte_as_the_blank_and_as_the_end(self):
        for byte in range(256):
            self.assertEqual(judge([65, byte, 46, 10]), [1] if byte == 32 else [-6, 1, 0])
            self.assertEqual(judge([65, 32, 46, byte]), [1] if byte == 10 else [-6, 1, 0])

    def test_not_such_a_line(self):
        for wrong in ("A", "A ", "A.", " A .", "A  .", "A . ", "AB .", ". A", "A .\r", "A .x", "A -.\0", "A . -"):
            self.assertEqual(judge(text(wrong)), [-6, 1, 0], wrong)
            self.assertEqual(judge(text("! --", wrong, "B -")), [-6, 1, 1], wrong)


class WhatIsTold(unittest.TestCase):
    def test_the_first_kind_of_a_line(self):
        self.assertEqual(judge(text("B .", "A .")), [-6, 2, 1])
        self.assertEqual(judge(text("B .", "B .")), [-6, 2, 1])
        self.assertEqual(judge(text("B .", "A .x")), [-6, 1, 1])
        self.assertEqual(judge(text("B .", "A .")[:-1]), [-6, 1, 1])
        self.assertEqual(judge(text("B .", "C .")[:-1]), [-6, 1, 1])
        self.assertEqual(judge(text("B ", "A ")), [-6, 1, 0])

    def test_the_first_line(self):
        self.assertEqual(judge(text("A .", "B .", "A -")), [-6, 3, 1])
        self.assertEqual(judge(text("B .", "A -", "x")), [-6, 2, 1])
        self.assertEqual(judge(text("A .", "B .", "x")), [-6, 3, 1])
        self.assertEqual(judge(text("A .", "x", "A .")), [-6, 1, 1])
        self.assertEqual(judge(text("A .", "B .", "C -")[:-1]), [-6, 3, 1])
        self.assertEqual(judge(text("A .", "A -") + text(*table_lines(64))), [-6, 2, 1])

    def test_rows_of_lines_of_all_sorts(self):
        pool = ["A .\n", "A -\n", "B .\n", "B -\n", "C ..\n", "C .\n", "\n", "A\n", "B .", "B \n", "D ---------\n"]
        for count in range(5):
            for lines in itertools.product(pool, repeat=count):
                t = list("".join(lines).encode())
                self.assertEqual(judge(t), judged_otherwise(t), lines)

    def test_all_short_texts_of_the_bytes_that_matter(self):
        for count in range(7):
            for signs in itertools.product((10, 32, 45, 46, 65, 127), repeat=count):
                self.assertEqual(judge(list(signs)), judged_otherwise(signs), signs)


class LongTexts(unittest.TestCase):
    def test_up_to_65536_bytes_are_judged(self):
        self.assertEqual(judge([10] * 65536), [-6, 1, 0])
        self.assertEqual(judge([65] * 65536), [-6, 1, 0])
        self.assertEqual(judge(text("A .") * 16384), [-6, 2, 1])
        self.assertEqual(judge(text("A ." + "-" * 65532)), [-6, 1, 0])
        lines = text(*table_lines(64))
        self.assertEqual(judge(lines + [65] * (65536 - len(lines))), [-6, 1, 64])
        self.assertEqual(judge(lines + [10] * (65535 - len(lines))), [-6, 1, 64])

    def test_more_are_refused_and_nothing_else_is_told(self):
        lines = text(*table_lines(64))
        for count in (65537, 65538, 70000):
            self.assertEqual(judge([10] * count), [-2])
            self.assertEqual(judge([65] * count), [-2])
            self.assertEqual(judge([0] * count), [-2])
            self.assertEqual(judge(lines + [10] * (count - len(lines))), [-2])


class OneTableOneText(unittest.TestCase):
    def test_of_all_orders_of_lines_only_the_rising_one_is_a_text(self):
        lines = ["! --", "5 .", "A -", "a ..", "~ .-"]
        for order in itertools.permutations(lines):
            self.assertEqual(judge(text(*order)) == [5], list(order) == lines, order)

    def test_what_is_accepted_is_the_text_of_what_it_tells(self):
        accepted = 0
        for place in range(len(text("A .-", "C -"))):
            for byte in range(256):
                t = text("A .-", "C -")
                t[place] = byte
                if judge(t)[0] > 0:
                    accepted += 1
                    self.assertEqual(written_table(told_table(t)), t)
                    self.assertEqual(judge(t), [len(told_table(t))])
        self.assertGreater(accepted, 100)

    def test_every_table_has_a_text(self):
        for letters in itertools.combinations("!-.A~", 3):
            for signs in itertools.permutations((".", "-", "..", "--------"), 3):
                self.assertEqual(judge(written_table(zip(letters, signs))), [3])


class HandedIn(unittest.TestCase):
    def test_stays_as_it_was_and_a_second_call_answers_the_same(self):
        cases = (
            (text("A .-", "B -..."), [2]),
            (text("A .", "B ")[:-1], [-6, 1, 1]),
            (text("A .", "A -"), [-6, 2, 1]),
            (text("A .", "B ."), [-6, 3, 1]),
            ([], [-6, 1, 0]),
            ([65] * 70000, [-2]),
        )
        for t, answer in cases + cases[::-1]:
            assert_kept(self, judge, [t], answer)


if __name__ == "__main__":
    unittest.main()
