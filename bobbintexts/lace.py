"""The calls on bobbin lace: read tells which working a text means, or its first fault; write writes a working."""

MOST_BYTES = 16384
MOST_ACTS = 4096
MOST_WRITTEN = 512
MOST_PAIRS = 32
MOST_DEEP = 8
MOST_LETTERS = 12
# Five digits go up to 99,999, the greatest number.
MOST_DIGITS = 5

NO_FAULT = 0
NO_LINE = 1
WRONG_NAME = 2
WRONG_PAIR = 3
WRONG_REPEAT = 4
TOO_MANY_ACTS = 5
FAULT = -5

WRONG_SIZE = -1
NO_ACT = -5

NO_NUMBER = -1
CROSS = 64
LINE_WORDS = ("pairs", "let", "do", "row", "twist", "cross", "repeat", "end")
# What a letter works at the pairs 0 and 1; at K and K + 1 each act's number is K more.
LETTER_ACTS = {"c": (64,), "t": (0, 1), "l": (0,), "r": (1,)}

LETTERS = "abcdefghijklmnopqrstuvwxyz"
DIGITS = "0123456789"
OTHER_SIGNS = {10: "\n", 32: " ", 42: "*", 61: "="}
# Stands for every byte that no line may have, so that such a line is seen to be none.
NO_SIGN = "?"


class Reading:
    """What has been read of one text so far."""

    def __init__(self):
        self.pairs = 0
        # The acts of each name that was let, at the pairs 0 and 1.
        self.stitches = {}
        # Each act worked, with its line behind it.
        self.worked = []
        # Of each repeat that isn't ended: how much was worked before it, how many times it is worked.
        self.repeats = []


def sign_of(byte):
    """The sign that a byte stands for."""
    if byte >= 97 and byte <= 122:
        return LETTERS[byte - 97]
    if byte >= 48 and byte <= 57:
        return DIGITS[byte - 48]
    return OTHER_SIGNS.get(byte, NO_SIGN)


def number_of(word):
    """The number that a word is, or NO_NUMBER."""
    if len(word) < 1 or len(word) > MOST_DIGITS:
        return NO_NUMBER
    if word[0] == "0" and len(word) > 1:
        return NO_NUMBER
    for sign in word:
        if sign not in DIGITS:
            return NO_NUMBER
    return int(word)


def is_name(word):
    """Whether a word may be let."""
    if len(word) < 1 or len(word) > MOST_LETTERS:
        return False
    if word in LINE_WORDS or word in LETTER_ACTS:
        return False
    for sign in word:
        if sign not in LETTERS:
            return False
    return True


def item_of(word):
    """How many times and what, as a tuple; None if the word is no item."""
    star = word.find("*")
    times = 1
    if star >= 0:
        times = number_of(word[:star])
    what = word[star + 1:]
    if times < 1:
        return None
    if what in LETTER_ACTS or is_name(what):
        return (times, what)
    return None


def items_of(words):
    """The items that words are; none at all if one of them is no item."""
    items = []
    for word in words:
        item = item_of(word)
        if item is None:
            return []
        items.append(item)
    return items


def are_let(items, stitches):
    """Whether every name among items was let."""
    for item in items:
        if item[1] not in LETTER_ACTS and item[1] not in stitches:
            return False
    return True


def add_times(acts, more, times):
    """Put more behind acts so many times, as far as there is room."""
    # Of a text with too many acts only the first one too many is asked for: what comes behind it is left out.
    room = MOST_ACTS + 1 - len(acts)
    if room == 0 or len(more) == 0:
        return
    enough = min(times, room // len(more) + 1)
    acts.extend((more * enough)[:room])


def acts_of(items, stitches):
    """The acts of items at the pairs 0 and 1, as far as there is room."""
    acts = []
    for item in items:
        times = item[0]
        what = item[1]
        if what in LETTER_ACTS:
            add_times(acts, list(LETTER_ACTS[what]), times)
        else:
            add_times(acts, stitches[what], times)
    return acts


def work_stitch(reading, line, acts, place):
    """Work a stitch's acts at the pairs place and place + 1."""
    # Where there is no room left, the long list below would be made for nothing.
    if len(reading.worked) > MOST_ACTS:
        return
    add_times(reading.worked, [(act + place, line) for act in acts], 1)


def read_pairs(reading, words):
    """Read the first line; answers the fault's kind, as all that read a line do."""
    if len(words) != 2 or words[0] != "pairs":
        return NO_LINE
    pairs = number_of(words[1])
    if pairs < 1 or pairs > MOST_PAIRS:
        return NO_LINE
    reading.pairs = pairs
    return NO_FAULT


def read_let(reading, words):
    """Read let NAME = ITEMS."""
    if len(words) < 4 or not is_name(words[1]) or words[2] != "=":
        return NO_LINE
    items = items_of(words[3:])
    if len(items) == 0:
        return NO_LINE
    if words[1] in reading.stitches or not are_let(items, reading.stitches):
        return WRONG_NAME
    reading.stitches[words[1]] = acts_of(items, reading.stitches)
    return NO_FAULT


def read_do(reading, line, words):
    """Read do K ITEMS."""
    if len(words) < 3:
        return NO_LINE
    place = number_of(words[1])
    items = items_of(words[2:])
    if place < 0 or len(items) == 0:
        return NO_LINE
    if not are_let(items, reading.stitches):
        return WRONG_NAME
    if place + 1 >= reading.pairs:
        return WRONG_PAIR
    work_stitch(reading, line, acts_of(items, reading.stitches), place)
    return NO_FAULT


def row_fits(places, pairs):
    """Whether a row's places have their pairs and none takes a pair of the one before."""
    free = 0
    for place in places:
        if place < free or place + 1 >= pairs:
            return False
        free = place + 2
    return True


def read_row(reading, line, words):
    """Read row NAME K K ..."""
    if len(words) < 3 or not is_name(words[1]):
        return NO_LINE
    places = [number_of(word) for word in words[2:]]
    if min(places) < 0:
        return NO_LINE
    if words[1] not in reading.stitches:
        return WRONG_NAME
    if not row_fits(places, reading.pairs):
        return WRONG_PAIR
    for place in places:
        work_stitch(reading, line, reading.stitches[words[1]], place)
    return NO_FAULT


def read_act(reading, line, words):
    """Read twist K M or cross K M."""
    if len(words) != 3:
        return NO_LINE
    place = number_of(words[1])
    times = number_of(words[2])
    if place < 0 or times < 1:
        return NO_LINE
    act = place
    last = place
    if words[0] == "cross":
        act = CROSS + place
        last = place + 1
    if last >= reading.pairs:
        return WRONG_PAIR
    add_times(reading.worked, [(act, line)], times)
    return NO_FAULT


def read_repeat(reading, words):
    """Read repeat M."""
    if len(words) != 2:
        return NO_LINE
    times = number_of(words[1])
    if times < 1:
        return NO_LINE
    if len(reading.repeats) == MOST_DEEP:
        return WRONG_REPEAT
    reading.repeats.append((len(reading.worked), times))
    return NO_FAULT


def read_end(reading, words):
    """Read end: what was worked since its repeat, the first time, is worked the other times."""
    if len(words) != 1:
        return NO_LINE
    if len(reading.repeats) == 0:
        return WRONG_REPEAT
    repeat = reading.repeats.pop()
    add_times(reading.worked, reading.worked[repeat[0]:], repeat[1] - 1)
    return NO_FAULT


def read_line(reading, line, words):
    """Read the words of one line; answers the least kind of its faults, or NO_FAULT."""
    if line == 0:
        return read_pairs(reading, words)
    if words[0] == "let":
        return read_let(reading, words)
    if words[0] == "do":
        return read_do(reading, line, words)
    if words[0] == "row":
        return read_row(reading, line, words)
    if words[0] == "twist" or words[0] == "cross":
        return read_act(reading, line, words)
    if words[0] == "repeat":
        return read_repeat(reading, words)
    if words[0] == "end":
        return read_end(reading, words)
    return NO_LINE


def read(t):
    """Tell which working a text's bytes mean: 0, how many pairs, the acts; or -5, the fault's kind, its line."""
    if len(t) > MOST_BYTES:
        return [FAULT, NO_LINE, 0]
    lines = "".join([sign_of(byte) for byte in t]).split("\n")
    rest = lines.pop()
    reading = Reading()
    for line in range(len(lines)):
        # Two blanks together, or one at a line's end, leave an empty word, and that is no word of any line.
        kind = read_line(reading, line, lines[line].split(" "))
        if kind != NO_FAULT:
            return [FAULT, kind, line]
    if rest != "" or len(lines) == 0:
        return [FAULT, NO_LINE, len(lines)]
    if len(reading.repeats) > 0:
        return [FAULT, WRONG_REPEAT, len(lines)]
    if len(reading.worked) > MOST_ACTS:
        return [FAULT, TOO_MANY_ACTS, reading.worked[MOST_ACTS][1]]
    return [0, reading.pairs] + [entry[0] for entry in reading.worked]


def is_act(number, pairs):
    """Whether a number is an act of so many pairs."""
    if number >= CROSS:
        return number - CROSS + 1 < pairs
    return number < pairs


def first_place(act):
    """The left one of an act's two places."""
    if act >= CROSS:
        return 2 * (act - CROSS) + 1
    return 2 * act


def touch(one, other):
    """Whether two acts have a place in common."""
    # The two places of an act stand side by side, so its left one tells both.
    return abs(first_place(one) - first_place(other)) < 2


def form_of(acts):
    """The first of all workings that are the same lace as these acts."""
    form = []
    for act in acts:
        # The acts so far are in their form, and none of them waits for the new one: they keep their order,
        # and it stands ahead of the first greater one that it can come to, or behind them all.
        at = len(form)
        goal = at
        while at > 0 and not touch(form[at - 1], act):
            at = at - 1
            if form[at] > act:
                goal = at
        form.insert(goal, act)
    return form


def act_line(act, times):
    """The line that works an act so many times."""
    word = "twist"
    place = act
    if act >= CROSS:
        word = "cross"
        place = act - CROSS
    return f"{word} {place} {times}\n"


def act_lines(acts):
    """The lines that work acts, each for as many alike as stand together."""
    lines = []
    start = 0
    for at in range(len(acts)):
        if at + 1 == len(acts) or acts[at + 1] != acts[at]:
            lines.append(act_line(acts[at], at + 1 - start))
            start = at + 1
    return lines


def write(n, a):
    """Write a working of n pairs: 0, the bytes of a text that means its lace's form; or -1 or -5, the refusal."""
    if n < 1 or n > MOST_PAIRS or len(a) > MOST_WRITTEN:
        return [WRONG_SIZE]
    for number in a:
        if not is_act(number, n):
            return [NO_ACT]
    text = f"pairs {n}\n" + "".join(act_lines(form_of(a)))
    return [0] + [ord(sign) for sign in text]
