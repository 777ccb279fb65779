"""The calls of Lamps. Each stands by itself: it takes numbers and lists, and gives back a list."""

NOT_GRANTED = -1
TOO_LONG = -2
NO_SUCH = -4
NO_TABLE = -6

MOST_TABLE_BYTES = 65536
MOST_LETTERS = 64
MOST_SIGNS = 8
MOST_MESSAGE_BYTES = 1024
GREATEST_UNIT = 134217728

LEAST_LETTER = 33
GREATEST_LETTER = 126
LINE_END = 10
BLANK = 32
LONG = 45
SHORT = 46

NO_FAULT = 0
NOT_A_LINE = 1
LETTER_NOT_ABOVE = 2
PATTERN_STANDS_BEFORE = 3

SHORT_LIGHT = 1
LONG_LIGHT = 3
SIGN_DARK = 1
LETTER_DARK = 3
WORD_DARK = 7


def split_lines(t):
    """The lines of t, each with its byte 10; bytes behind the last byte 10 are a line without one."""
    lines = []
    line = []
    for byte in t:
        line.append(byte)
        if byte == LINE_END:
            lines.append(line)
            line = []
    if len(line) > 0:
        lines.append(line)
    return lines


def is_pattern(signs):
    """Whether signs are 1 to 8 bytes, each a short or a long."""
    if len(signs) < 1 or len(signs) > MOST_SIGNS:
        return False
    for sign in signs:
        if sign != SHORT and sign != LONG:
            return False
    return True


def is_table_line(line):
    """Whether line is a letter, a blank, a pattern and the byte 10."""
    last = len(line) - 1
    if last < 2:
        return False
    if line[0] < LEAST_LETTER or line[0] > GREATEST_LETTER:
        return False
    if line[1] != BLANK or line[last] != LINE_END:
        return False
    return is_pattern(line[2:last])


def stands_before(lines, number):
    """Whether the pattern of that line is the pattern of a line before it."""
    for earlier in lines[:number]:
        # Behind the letter, table lines differ in nothing but their patterns.
        if earlier[1:] == lines[number][1:]:
            return True
    return False


def line_fault(lines, number):
    """The kind of fault of that line, where all lines before it are as they must be."""
    if number >= MOST_LETTERS or not is_table_line(lines[number]):
        return NOT_A_LINE
    if number > 0 and lines[number][0] <= lines[number - 1][0]:
        return LETTER_NOT_ABOVE
    if stands_before(lines, number):
        return PATTERN_STANDS_BEFORE
    return NO_FAULT


def table_fault(lines):
    """The kind and the number of the first line that is not as it must be; an empty list if all are."""
    if len(lines) == 0:
        return [NOT_A_LINE, 0]
    for number in range(len(lines)):
        kind = line_fault(lines, number)
        if kind != NO_FAULT:
            return [kind, number]
    return []


def judge(t):
    """How many letters the table of the text t has; or -2; or -6, and then the kind and the line."""
    if len(t) > MOST_TABLE_BYTES:
        return [TOO_LONG]
    lines = split_lines(t)
    fault = table_fault(lines)
    if len(fault) > 0:
        return [NO_TABLE] + fault
    return [len(lines)]


def pattern_lights(signs):
    """How many units each light of a pattern has."""
    return [LONG_LIGHT if sign == LONG else SHORT_LIGHT for sign in signs]


def table_lights(t):
    """For each letter of the table whose text is t, the lights of its pattern."""
    lights = {}
    for line in split_lines(t):
        lights[line[0]] = pattern_lights(line[2:-1])
    return lights


def long_bits(lights):
    """The number whose bit i is 1 if light i is a long one."""
    bits = 0
    weight = 1
    for light in lights:
        if light == LONG_LIGHT:
            bits += weight
        weight *= 2
    return bits


def pattern(c, t):
    """0, how many signs the pattern of letter c has, and the number of its longs' bits; or -2, -6 or -4."""
    judged = judge(t)[0]
    if judged < 0:
        return [judged]
    table = table_lights(t)
    if c not in table:
        return [NO_SUCH]
    return [0, len(table[c]), long_bits(table[c])]


def is_message(table, s):
    """Whether s is 1 to 1,024 bytes: letters of the table, and blanks that stand between two letters each."""
    if len(s) > MOST_MESSAGE_BYTES:
        return False
    # As if a blank stood ahead of s: so a blank at its front is the second side by side, and an empty s ends with one.
    before = BLANK
    for byte in s:
        if byte == BLANK and before == BLANK:
            return False
        if byte != BLANK and byte not in table:
            return False
        before = byte
    return before != BLANK


def sent_counts(table, s):
    """How many units each light and dark has that is sent of the message s."""
    counts = []
    dark = SIGN_DARK
    for byte in s:
        if byte == BLANK:
            dark = WORD_DARK
            continue
        for light in table[byte]:
            counts.append(dark)
            counts.append(light)
            dark = SIGN_DARK
        dark = LETTER_DARK
    # No dark is sent ahead of the first light.
    return counts[1:]


def send(unit, t, s):
    """How many times an exact hand with that unit sends of s, then they; or -2, -6 or -1."""
    judged = judge(t)[0]
    if judged < 0:
        return [judged]
    table = table_lights(t)
    if unit < 1 or unit > GREATEST_UNIT or not is_message(table, s):
        return [NOT_GRANTED]
    counts = sent_counts(table, s)
    return [len(counts)] + [count * unit for count in counts]
