"""What the tests share: texts of tables, and a check that a call leaves alone what it is handed."""

import itertools


def text(*lines):
    """The text of these lines, each with its byte 10."""
    return list("".join(line + "\n" for line in lines).encode("ascii"))


def patterns(count):
    """That many different patterns, of 7 signs each."""
    return ["".join(signs) for signs in itertools.islice(itertools.product(".-", repeat=7), count)]


def table_lines(count):
    """The lines of a table of that many letters, from the letter 33 on."""
    return [chr(33 + number) + " " + signs for number, signs in enumerate(patterns(count))]


def drawn_table(draw):
    """The text of a table drawn at random, of 1 to 64 letters."""
    count = draw.choice((1, 2, 3, 10, 26, 64))
    letters = sorted(draw.sample(range(33, 127), count))
    longest = draw.randint(min(size for size in range(1, 9) if 2 ** (size + 1) - 2 >= count), 8)
    all_signs = ["".join(signs) for size in range(1, longest + 1) for signs in itertools.product(".-", repeat=size)]
    return text(*[chr(letter) + " " + signs for letter, signs in zip(letters, draw.sample(all_signs, count))])


def drawn_message(draw, t, count):
    """A message of so many bytes drawn at random, of letters of the table whose text is t."""
    letters = [line[0] for line in bytes(t).splitlines()]
    message = []
    for place in range(count):
        inner = 0 < place < count - 1 and message[-1] != 32
        message.append(32 if inner and draw.random() < 0.2 else draw.choice(letters))
    return message


# Texts that are no table's, of each kind.
NO_TABLES = (
    [],
    [10],
    text("A"),
    text("A .x"),
    text("A ........."),
    text("A .")[:-1],
    text("A .") + [66],
    text("A .", "A -"),
    text("B .", "A -"),
    text("A .", "B ."),
    text(*table_lines(65)),
    text("A .", "", "B -"),
    [32, 32, 46, 10],
    [127, 32, 46, 10],
)


class Watched(list):
    """A list that fails as soon as it is changed."""

    def refuse(self, *given):
        raise AssertionError("what was handed in was changed")

    append = clear = extend = insert = pop = remove = reverse = sort = refuse
    __setitem__ = __delitem__ = __iadd__ = __imul__ = refuse


def copied(given):
    return [list(each) if isinstance(each, list) else each for each in given]


def watched(given):
    return [Watched(each) if isinstance(each, list) else each for each in given]


def assert_kept(case, call, given, answer):
    """The call answers so, each time anew, and doesn't change what it is handed, not for a while either."""
    before = copied(given)
    first = call(*given)
    case.assertEqual(first, answer)
    case.assertEqual(given, before)
    case.assertIs(type(first), list)
    case.assertEqual({type(number) for number in first}, {int})
    # What was given back is the caller's: changing it must not reach into the next answer.
    first.append(99)
    first[0] = 98
    case.assertEqual(call(*given), answer)
    case.assertEqual(given, before)
    case.assertEqual(call(*watched(given)), answer)
