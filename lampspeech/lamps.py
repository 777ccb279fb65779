"""The calls of Lamps. Each stands by itself: it takes numbers and lists, and gives back a list."""

NOT_REFUSED = 0
NOT_GRANTED = -1
TOO_LONG = -2
NO_SUCH = -4
NO_TABLE = -6

MOST_TABLE_BYTES = 65536
MOST_LETTERS = 64
MOST_SIGNS = 8
MOST_MESSAGE_BYTES = 1024
MOST_TIMES = 16385
GREATEST_UNIT = 134217728
GREATEST_UNIT_PART = 4294967295

LEAST_LETTER = 33
GREATEST_LETTER = 126
LINE_END = 10
BLANK = 32
LONG = 45
SHORT = 46

NO_FAULT = 0
NOT_A_LINE = 1
LETTER_NOT_ABOVE = 2
PATTERN_STANDS_BEFORE = 3

SHORT_LIGHT = 1
LONG_LIGHT = 3
SIGN_DARK = 1
LETTER_DARK = 3
WORD_DARK = 7
LIGHT_COUNTS = (1, 3)
DARK_COUNTS = (1, 3, 7)
NO_COUNT = 0
NO_LETTER = 0


def split_lines(t):
    """The lines of t, each with its byte 10; bytes behind the last byte 10 are a line without one."""
    lines = []
    line = []
    for byte in t:
        line.append(byte)
        if byte == LINE_END:
            lines.append(line)
            line = []
    if len(line) > 0:
        lines.append(line)
    return lines


def is_pattern(signs):
    """Whether signs are 1 to 8 bytes, each a short or a long."""
    if len(signs) < 1 or len(signs) > MOST_SIGNS:
        return False
    for sign in signs:
        if sign != SHORT and sign != LONG:
            return False
    return True


def is_table_line(line):
    """Whether line is a letter, a blank, a pattern and the byte 10."""
    last = len(line) - 1
    if last < 2:
        return False
    if line[0] < LEAST_LETTER or line[0] > GREATEST_LETTER:
        return False
    if line[1] != BLANK or line[last] != LINE_END:
        return False
    return is_pattern(line[2:last])


def stands_before(lines, number):
    """Whether the pattern of that line is the pattern of a line before it."""
    for earlier in lines[:number]:
        # Behind the letter, table lines differ in nothing but their patterns.
        if earlier[1:] == lines[number][1:]:
            return True
    return False


def line_fault(lines, number):
    """The kind of fault of that line, where all lines before it are as they must be."""
    if number >= MOST_LETTERS or not is_table_line(lines[number]):
        return NOT_A_LINE
    if number > 0 and lines[number][0] <= lines[number - 1][0]:
        return LETTER_NOT_ABOVE
    if stands_before(lines, number):
        return PATTERN_STANDS_BEFORE
    return NO_FAULT


def table_fault(lines):
    """The kind and the number of the first line that is not as it must be; an empty list if all are."""
    if len(lines) == 0:
        return [NOT_A_LINE, 0]
    for number in range(len(lines)):
        kind = line_fault(lines, number)
        if kind != NO_FAULT:
            return [kind, number]
    return []


def judge(t):
    """How many letters the table of the text t has; or -2; or -6, and then the kind and the line."""
    if len(t) > MOST_TABLE_BYTES:
        return [TOO_LONG]
    lines = split_lines(t)
    fault = table_fault(lines)
    if len(fault) > 0:
        return [NO_TABLE] + fault
    return [len(lines)]


def pattern_lights(signs):
    """How many units each light of a pattern has."""
    return [LONG_LIGHT if sign == LONG else SHORT_LIGHT for sign in signs]


def table_lights(t):
    """For each letter of the table whose text is t, the lights of its pattern."""
    lights = {}
    for line in split_lines(t):
        lights[line[0]] = pattern_lights(line[2:-1])
    return lights


def long_bits(lights):
    """The number whose bit i is 1 if light i is a long one."""
    bits = 0
    weight = 1
    for light in lights:
        if light == LONG_LIGHT:
            bits += weight
        weight *= 2
    return bits


def pattern(c, t):
    """0, how many signs the pattern of letter c has, and the number of its longs' bits; or -2, -6 or -4."""
    judged = judge(t)[0]
    if judged < 0:
        return [judged]
    table = table_lights(t)
    if c not in table:
        return [NO_SUCH]
    return [0, len(table[c]), long_bits(table[c])]


def is_message(table, s):
    """Whether s is 1 to 1,024 bytes: letters of the table, and blanks that stand between two letters each."""
    if len(s) > MOST_MESSAGE_BYTES:
        return False
    # As if a blank stood ahead of s: so a blank at its front is the second side by side, and an empty s ends with one.
    before = BLANK
    for byte in s:
        if byte == BLANK and before == BLANK:
            return False
        if byte != BLANK and byte not in table:
            return False
        before = byte
    return before != BLANK


def sent_counts(table, s):
    """How many units each light and dark has that is sent of the message s."""
    counts = []
    dark = SIGN_DARK
    for byte in s:
        if byte == BLANK:
            dark = WORD_DARK
            continue
        for light in table[byte]:
            counts.append(dark)
            counts.append(light)
            dark = SIGN_DARK
        dark = LETTER_DARK
    # No dark is sent ahead of the first light.
    return counts[1:]


def send(unit, t, s):
    """How many times an exact hand with that unit sends of s, then they; or -2, -6 or -1."""
    judged = judge(t)[0]
    if judged < 0:
        return [judged]
    table = table_lights(t)
    if unit < 1 or unit > GREATEST_UNIT or not is_message(table, s):
        return [NOT_GRANTED]
    counts = sent_counts(table, s)
    return [len(counts)] + [count * unit for count in counts]


def times_refusal(t, times):
    """The number that refuses these times, or the text t of a table to read them by; 0 if none does."""
    judged = judge(t)[0]
    if judged < 0:
        return judged
    if len(times) % 2 == 0 or len(times) > MOST_TIMES or 0 in times:
        return NOT_GRANTED
    return NOT_REFUSED


def share_a_unit(one, one_count, other, other_count):
    """Whether by some unit one time is one_count units, and the other other_count, both within a fifth."""
    # A time d is k units by each unit from 5 d / 6 k to 5 d / 4 k, so two times have a unit in common
    # just if neither's d / k is more than 3 / 2 of the other's.
    one_share = one * other_count
    other_share = other * one_count
    return 2 * one_share <= 3 * other_share and 2 * other_share <= 3 * one_share


def fitting_count(first, first_count, time, choices):
    """Which of the choices that time can have as its units if the first light has first_count; 0 if none."""
    for count in choices:
        # At most one fits: what fits is no more than 9 / 4 apart, and two choices are 7 / 3 apart or more.
        if share_a_unit(first, first_count, time, count):
            return count
    return NO_COUNT


def read_counts(times, first_count):
    """How many units each time can have beside a first light of first_count; an empty list if one can have none."""
    counts = []
    for place in range(len(times)):
        choices = LIGHT_COUNTS if place % 2 == 0 else DARK_COUNTS
        count = fitting_count(times[0], first_count, times[place], choices)
        if count == NO_COUNT:
            return []
        counts.append(count)
    return counts


def lowest_terms(above, below):
    """The fraction above / below in lowest terms, as a list of two."""
    divisor = above
    rest = below
    while rest > 0:
        former = rest
        rest = divisor % rest
        divisor = former
    return [above // divisor, below // divisor]


def unit_bounds(times, counts):
    """The least and the greatest unit by which each time has its count of units; an empty list if none is."""
    high = 0
    low = 0
    for place in range(1, len(times)):
        if times[place] * counts[high] > times[high] * counts[place]:
            high = place
        if times[place] * counts[low] < times[low] * counts[place]:
            low = place
    if not share_a_unit(times[high], counts[high], times[low], counts[low]):
        return []
    return lowest_terms(5 * times[high], 6 * counts[high]) + lowest_terms(5 * times[low], 4 * counts[low])


def letters_by_lights(t):
    """For the lights of each pattern of the table whose text is t, its letter."""
    table = table_lights(t)
    letters = {}
    for letter in table:
        letters[tuple(table[letter])] = letter
    return letters


def told_message(letters, counts):
    """The message whose lights and darks have so many units; an empty list if there is none."""
    # As if a letter followed: so the last one ends like all others.
    ended = counts + [LETTER_DARK]
    message = []
    lights = []
    for place in range(0, len(ended), 2):
        lights.append(ended[place])
        dark = ended[place + 1]
        if dark == SIGN_DARK:
            continue
        letter = letters.get(tuple(lights), NO_LETTER)
        if letter == NO_LETTER:
            return []
        message.append(letter)
        lights = []
        if dark == WORD_DARK:
            message.append(BLANK)
    if len(message) > MOST_MESSAGE_BYTES:
        return []
    return message


def read_times(letters, times, first_count):
    """The reading whose first light has first_count units, as nth tells it; an empty list if there is none."""
    counts = read_counts(times, first_count)
    if len(counts) == 0:
        return []
    bounds = unit_bounds(times, counts)
    message = told_message(letters, counts)
    if len(bounds) == 0 or len(message) == 0:
        return []
    return [len(message)] + bounds + message


def readings(t, times):
    """All readings of the times by the table whose text is t, each as nth tells it."""
    letters = letters_by_lights(t)
    found = []
    # Greater units stand first, and by these the first light has fewer of them.
    for first_count in LIGHT_COUNTS:
        reading = read_times(letters, times, first_count)
        if len(reading) > 0:
            found.append(reading)
    return found


def many(t, times):
    """How many readings the times have by the table whose text is t; or -2, -6 or -1."""
    refusal = times_refusal(t, times)
    if refusal < 0:
        return [refusal]
    return [len(readings(t, times))]


def nth(i, t, times):
    """Reading i: how many bytes it has, its least and greatest unit, its bytes; or -2, -6, -1 or -4."""
    refusal = times_refusal(t, times)
    if refusal < 0:
        return [refusal]
    found = readings(t, times)
    if i >= len(found):
        return [NO_SUCH]
    return found[i]


def is_unit(p, q):
    """Whether p / q is a unit that units tells times by."""
    return p > 0 and q > 0 and p <= GREATEST_UNIT_PART and q <= GREATEST_UNIT_PART


def count_by_unit(p, q, time):
    """Which of 1, 3 and 7 units of p / q that time is within a fifth; 0 if none."""
    for count in DARK_COUNTS:
        if 4 * count * p <= 5 * time * q and 5 * time * q <= 6 * count * p:
            return count
    return NO_COUNT


def units(p, q, times):
    """0, then for each time 1, 3 or 7 if it is so many units of p / q within a fifth, else 0."""
    if not is_unit(p, q):
        return [0] + [NO_COUNT for time in times]
    return [0] + [count_by_unit(p, q, time) for time in times]
