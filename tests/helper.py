"""What the tests share: tables, messages and hands, readings found otherwise, and a check of what is handed in."""

import itertools
import math
from fractions import Fraction

GREATEST_TIME = 4294967295


def text(*lines):
    """The text of these lines, each with its byte 10."""
    return list("".join(line + "\n" for line in lines).encode("ascii"))


def patterns(count):
    """That many different patterns, of 7 signs each."""
    return ["".join(signs) for signs in itertools.islice(itertools.product(".-", repeat=7), count)]


def table_lines(count):
    """The lines of a table of that many letters, from the letter 33 on."""
    return [chr(33 + number) + " " + signs for number, signs in enumerate(patterns(count))]


def drawn_table(draw):
    """The text of a table drawn at random, of 1 to 64 letters."""
    count = draw.choice((1, 2, 3, 10, 26, 64))
    letters = sorted(draw.sample(range(33, 127), count))
    longest = draw.randint(min(size for size in range(1, 9) if 2 ** (size + 1) - 2 >= count), 8)
    all_signs = ["".join(signs) for size in range(1, longest + 1) for signs in itertools.product(".-", repeat=size)]
    return text(*[chr(letter) + " " + signs for letter, signs in zip(letters, draw.sample(all_signs, count))])


def drawn_message(draw, t, count):
    """A message of so many bytes drawn at random, of letters of the table whose text is t."""
    letters = [line[0] for line in bytes(t).splitlines()]
    message = []
    for place in range(count):
        inner = 0 < place < count - 1 and message[-1] != 32
        message.append(32 if inner and draw.random() < 0.2 else draw.choice(letters))
    return message


def sent_units(t, s):
    """How many units each light and dark of the message has, told by painting it with # and blanks."""
    lights = {
        line[0]: " ".join({".": "#", "-": "###"}[sign] for sign in line[2:])
        for line in bytes(t).decode("ascii").splitlines()
    }
    words = bytes(s).decode("ascii").split(" ")
    painted = (" " * 7).join("   ".join(lights[letter] for letter in word) for word in words)
    return [len(list(row)) for sign, row in itertools.groupby(painted)]


def hand_bounds(unit, count):
    """The least and the greatest time that a hand with this unit sends for so many units."""
    return math.ceil(Fraction(4, 5) * count * unit), min(math.floor(Fraction(6, 5) * count * unit), GREATEST_TIME)


def can_send(unit, counts):
    return all(low <= high for low, high in (hand_bounds(unit, count) for count in set(counts)))


def drawn_unit(draw, counts):
    """A unit, whole or not, by which a hand can send times of so many units."""
    while True:
        below = draw.choice((1, 2, 3, 7, 60, draw.randint(1, 10**6)))
        unit = Fraction(draw.randint(below // 2 + 1, draw.choice((3, 100, 10**6, 10**9)) * below), below)
        if can_send(unit, counts):
            return unit


def drawn_times(draw, unit, counts):
    """What an uneven hand with this unit may send for so many units; at times as unevenly as it may."""
    times = []
    for count in counts:
        low, high = hand_bounds(unit, count)
        times.append(draw.choice((low, high, draw.randint(low, high))))
    return times


def units_otherwise(unit, times):
    """Which of 1, 3 and 7 units of a hand with this unit each time is, or 0."""
    bounds = [(count, Fraction(4, 5) * count * unit, Fraction(6, 5) * count * unit) for count in (1, 3, 7)]
    return [sum(count for count, low, high in bounds if low <= time <= high) for time in times]


def message_otherwise(t, units):
    """The message that has lights and darks of so many units, or None."""
    letters = {line[2:]: line[0] for line in bytes(t).decode("ascii").splitlines()}
    lights = {1: ".", 3: "-"}
    darks = {1: "", 3: "/", 7: "/ /"}
    if not all(unit in lights for unit in units[::2]) or not all(unit in darks for unit in units[1::2]):
        return None
    row = "".join((darks if place % 2 else lights)[unit] for place, unit in enumerate(units))
    told = [" " if signs == " " else letters.get(signs, "") for signs in row.split("/")]
    return list("".join(told).encode("ascii")) if all(told) and len(told) <= 1024 else None


def readings_otherwise(t, times):
    """All readings with their least and greatest units, by trying each unit at which something may begin or end."""
    tried = {Fraction(5 * time, part * count) for time in times for part in (4, 6) for count in (1, 3, 7)}
    found = {}
    for unit in sorted(tried, reverse=True):
        message = message_otherwise(t, units_otherwise(unit, times))
        if message is not None:
            found.setdefault(tuple(message), []).append(unit)
    return [(list(message), fitting[-1], fitting[0]) for message, fitting in found.items()]


# Texts that are no table's, of each kind.
NO_TABLES = (
    [],
    [10],
    text("A"),
    text("A .x"),
    text("A ........."),
    text("A .")[:-1],
    text("A .") + [66],
    text("A .", "A -"),
    text("B .", "A -"),
    text("A .", "B ."),
    text(*table_lines(65)),
    text("A .", "", "B -"),
    [32, 32, 46, 10],
    [127, 32, 46, 10],
)


class Watched(list):
    """A list that fails as soon as it is changed."""

    def refuse(self, *given):
        raise AssertionError("what was handed in was changed")

    append = clear = extend = insert = pop = remove = reverse = sort = refuse
    __setitem__ = __delitem__ = __iadd__ = __imul__ = refuse


def copied(given):
    return [list(each) if isinstance(each, list) else each for each in given]


def watched(given):
    return [Watched(each) if isinstance(each, list) else each for each in given]


def assert_kept(case, call, given, answer):
    """The call answers so, each time anew, and doesn't change what it is handed, not for a while either."""
    before = copied(given)
    first = call(*given)
    case.assertEqual(first, answer)
    case.assertEqual(given, before)
    case.assertIs(type(first), list)
    case.assertEqual({type(number) for number in first}, {int})
    # What was given back is the caller's: changing it must not reach into the next answer.
    first.append(99)
    first[0] = 98
    case.assertEqual(call(*given), answer)
    case.assertEqual(given, before)
    case.assertEqual(call(*watched(given)), answer)
