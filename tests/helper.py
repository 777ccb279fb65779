"""What the tests share: texts of tables, and a check that a call leaves alone what it is handed."""

import itertools


def text(*lines):
    """The text of these lines, each with its byte 10."""
    return list("".join(line + "\n" for line in lines).encode("ascii"))


def patterns(count):
    """That many different patterns, of 7 signs each."""
    return ["".join(signs) for signs in itertools.islice(itertools.product(".-", repeat=7), count)]


def table_lines(count):
    """The lines of a table of that many letters, from the letter 33 on."""
    return [chr(33 + number) + " " + signs for number, signs in enumerate(patterns(count))]


# Texts that are no table's, of each kind.
NO_TABLES = (
    [],
    [10],
    text("A"),
    text("A .x"),
    text("A ........."),
    text("A .")[:-1],
    text("A .") + [66],
    text("A .", "A -"),
    text("B .", "A -"),
    text("A .", "B ."),
    text(*table_lines(65)),
    text("A .", "", "B -"),
    [32, 32, 46, 10],
    [127, 32, 46, 10],
)


class Watched(list):
    """A list that fails as soon as it is changed."""

    def refuse(self, *given):
        raise AssertionError("what was handed in was changed")

    append = clear = extend = insert = pop = remove = reverse = sort = refuse
    __setitem__ = __delitem__ = __iadd__ = __imul__ = refuse


def copied(given):
    return [list(each) if isinstance(each, list) else each for each in given]


def watched(given):
    return [Watched(each) if isinstance(each, list) else each for each in given]


def assert_kept(case, call, given, answer):
    """The call answers so, each time anew, and doesn't change what it is handed, not for a while either."""
    before = copied(given)
    first = call(*given)
    case.assertEqual(first, answer)
    case.assertEqual(given, before)
    case.assertIs(type(first), list)
    case.assertEqual({type(number) for number in first}, {int})
    # What was given back is the caller's: changing it must not reach into the next answer.
    first.append(99)
    first[0] = 98
    case.assertEqual(call(*given), answer)
    case.assertEqual(given, before)
    case.assertEqual(call(*watched(given)), answer)
