"""Texts made by a seed, the same ones each time: without a fault of the kinds 1 to 4, and spoilt ones."""
import random

NAMES = ["a", "b", "cloth", "half", "whole", "edge", "pairsx", "zzzzzzzzzzzz"]
WORDS = ["pairs", "let", "do", "row", "twist", "cross", "repeat", "end", "c", "t", "l", "r", "=", "*", "0", "1", "2",
         "31", "32", "99999", "100000", "01", "2*c", "0*c", "2*a", "*c", "a", "b", "edge", "", " ", "?"]


def item(chance, names):
    """One item, of letters and names let before."""
    what = chance.choice(["c", "t", "l", "r", *names, *names])
    return what if chance.random() < 0.5 else f"{chance.choice([1, 2, 3, 5])}*{what}"


def items(chance, names):
    return " ".join(item(chance, names) for _ in range(chance.randint(1, 4)))


def row_places(chance, pairs):
    """Places of a row, from the left."""
    places = [chance.randint(0, pairs - 2)]
    while places[-1] + 3 < pairs and chance.random() < 0.7:
        places.append(chance.randint(places[-1] + 2, pairs - 2))
    return " ".join(map(str, places))


def line(chance, pairs, names):
    """A line that works, or a let; names are those let, and may become more."""
    kind = chance.choice(["let", "do", "do", "row", "row", "twist", "cross"])
    free = [name for name in NAMES if name not in names]
    times = chance.choice([1, 1, 2, 7])
    if kind == "let" and free:
        made = f"let {free[0]} = {items(chance, names)}"
        names.append(free[0])
        return made
    if pairs == 1 or kind == "twist":
        return f"twist {chance.randint(0, pairs - 1)} {times}"
    if kind == "do":
        return f"do {chance.randint(0, pairs - 2)} {items(chance, names)}"
    if kind == "row" and names:
        return f"row {chance.choice(names)} {row_places(chance, pairs)}"
    return f"cross {chance.randint(0, pairs - 2)} {times}"


def made_text(seed, rounds=(1, 2, 2, 3, 5)):
    """A text without a fault but perhaps too many acts; rounds are the times that a repeat may have."""
    chance = random.Random(seed)
    pairs = chance.choice([1, 2, 3, 4, 8, 31, 32])
    names, lines, depth = [], [f"pairs {pairs}"], 0
    for _ in range(chance.randint(0, 25)):
        roll = chance.random()
        if roll < 0.2 and depth < 8:
            lines.append(f"repeat {chance.choice(rounds)}")
            depth += 1
        elif roll < 0.4 and depth > 0:
            lines.append("end")
            depth -= 1
        else:
            lines.append(line(chance, pairs, names))
    lines += ["end"] * depth
    return "".join(text + "\n" for text in lines)


def heavy_text(seed):
    """A made text with repeats of many times, so that most have too many acts."""
    return made_text(seed, (1, 3, 17, 40, 99999))


def spoilt_text(seed):
    """A made text in which a few words, signs or lines are changed."""
    chance = random.Random(f"spoilt {seed}")
    lines = [text.split(" ") for text in made_text(seed).split("\n")]
    for _ in range(chance.randint(1, 3)):
        words = chance.choice(lines)
        at = chance.randrange(len(words))
        roll = chance.randrange(5)
        if roll == 0:
            words[at] = chance.choice(WORDS)
        elif roll == 1:
            words.insert(at, chance.choice(WORDS))
        elif roll == 2 and len(words) > 1:
            words.pop(at)
        elif roll == 3:
            lines.insert(chance.randrange(len(lines)), list(chance.choice(lines)))
        elif len(lines) > 1:
            lines.pop(chance.randrange(len(lines)))
    return "\n".join(" ".join(words) for words in lines)


SLOTS = {
    "K": ["0", "1", "2", "3", "4", "99999", "00", "x", "100000"],
    "M": ["1", "2", "3000", "99999", "0", "01", "c"],
    "N": ["a", "b", "dd", "c", "end", "aaaaaaaaaaaa", "aaaaaaaaaaaaa"],
    "I": ["c", "t", "2*l", "3*a", "a", "b", "2*dd", "0*c", "*c", "row", "99999*a"],
}
FORMS = ["let N = I", "let N = I I", "do K I", "do K I I", "row N K", "row N K K", "row N K K K", "twist K M",
         "cross K M", "repeat M", "repeat M", "end", "end"]


def slot_text(seed):
    """Lines of the right form, their words chosen among right and wrong ones, the right ones more often."""
    chance = random.Random(f"slots {seed}")
    lines = ["pairs 4", "let a = c t"]
    for _ in range(5):
        words = []
        for word in chance.choice(FORMS).split(" "):
            choices = SLOTS.get(word, [word])
            words.append(choices[min(chance.randrange(len(choices)), chance.randrange(len(choices)))])
        lines.append(" ".join(words))
    return "".join(text + "\n" for text in lines)
