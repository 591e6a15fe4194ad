"""A slow second reader, written apart from the program, and the writing out of a text.

It goes by patterns and by counts of any size, and works a text line by line,
so that it shares none of the program's ways.
"""
import re

NUMBER = r"(?:0|[1-9][0-9]{0,4})"
TIMES = r"[1-9][0-9]{0,4}"
WORD = r"[a-z]{1,12}"
ITEM = rf"(?:{TIMES}\*)?{WORD}"
FORMS = {
    "let": re.compile(rf"let ({WORD}) = ({ITEM}(?: {ITEM})*)"),
    "do": re.compile(rf"do ({NUMBER}) ({ITEM}(?: {ITEM})*)"),
    "row": re.compile(rf"row ({WORD})((?: {NUMBER})+)"),
    "twist": re.compile(rf"twist ({NUMBER}) ({TIMES})"),
    "cross": re.compile(rf"cross ({NUMBER}) ({TIMES})"),
    "repeat": re.compile(rf"repeat ({TIMES})"),
    "end": re.compile(r"end"),
}
PAIRS = re.compile(r"pairs ([1-9]|[12][0-9]|3[0-2])")
RESERVED = ["pairs", *FORMS]
LETTERS = {"c": [64], "t": [0, 1], "l": [0], "r": [1]}


def split_items(text):
    """Each item as (times, what)."""
    items = []
    for word in text.split(" "):
        times, star, what = word.rpartition("*")
        items.append((int(times) if star else 1, what))
    return items


def form_of(line):
    """The kind of line and what its pattern caught, or None."""
    for kind, pattern in FORMS.items():
        match = pattern.fullmatch(line)
        if match:
            break
    else:
        return None
    caught = match.groups()
    if kind in ("let", "row") and (caught[0] in RESERVED or caught[0] in LETTERS):
        return None
    if kind in ("let", "do") and any(what in RESERVED for times, what in split_items(caught[1])):
        return None
    return kind, caught


def line_fault(form, pairs, names, depth):
    """The least kind of a well formed line's faults, or 0."""
    kind, caught = form
    used = [caught[0]] if kind == "row" else []
    if kind in ("let", "do"):
        used = [what for times, what in split_items(caught[1]) if what not in LETTERS]
    if any(name not in names for name in used) or (kind == "let" and caught[0] in names):
        return 2
    places = {"row": caught[-1].split() if caught else [], "do": caught[:1], "cross": caught[:1], "twist": caught[:1]}
    places = [int(place) for place in places.get(kind, [])]
    last = pairs - 1 if kind == "twist" else pairs - 2
    if any(place > last for place in places):
        return 3
    if any(right - left < 2 for left, right in zip(places, places[1:])):
        return 3
    if (kind == "end" and depth == 0) or (kind == "repeat" and depth == 8):
        return 4
    return 0


def first_fault(text):
    """(kind, line) of the first fault but kind 5, or None."""
    if len(text) > 16384:
        return 1, 0
    *lines, rest = text.split("\n")
    names, depth = set(), 0
    for number, line in enumerate(lines):
        if number == 0:
            match = PAIRS.fullmatch(line)
            if not match:
                return 1, 0
            pairs = int(match[1])
            continue
        form = form_of(line)
        kind = 1 if form is None else line_fault(form, pairs, names, depth)
        if kind:
            return kind, number
        if form[0] == "let":
            names.add(form[1][0])
        depth += {"repeat": 1, "end": -1}.get(form[0], 0)
    if rest or not lines:
        return 1, len(lines)
    if depth:
        return 4, len(lines)
    return None


def tree_of(forms):
    """Lines as (number, form), repeats as (number, times, tree)."""
    trees = [[]]
    for number, form in enumerate(forms, start=1):
        if form[0] == "repeat":
            branch = []
            trees[-1].append((number, int(form[1][0]), branch))
            trees.append(branch)
        elif form[0] == "end":
            trees.pop()
        else:
            trees[-1].append((number, form))
    return trees[0]


def counts_of(forms):
    """How many acts each name comes to, however many they are."""
    counts = {letter: len(acts) for letter, acts in LETTERS.items()}
    for kind, caught in forms:
        if kind == "let":
            counts[caught[0]] = sum(times * counts[what] for times, what in split_items(caught[1]))
    return counts


def count_line(form, counts):
    """How many acts a line works."""
    kind, caught = form
    if kind == "do":
        return sum(times * counts[what] for times, what in split_items(caught[1]))
    if kind == "row":
        return counts[caught[0]] * len(caught[1].split())
    if kind in ("twist", "cross"):
        return int(caught[1])
    return 0


def works(tree, counts):
    """Whether a tree works anything."""
    return any(works(node[2], counts) if len(node) == 3 else count_line(node[1], counts) for node in tree)


def worked_lines(tree, counts):
    """The lines as they are worked, one after another."""
    for node in tree:
        if len(node) == 2:
            yield node
        elif works(node[2], counts):
            for _ in range(node[1]):
                yield from worked_lines(node[2], counts)


def acts_at(items, lets, place):
    """The acts of items at the pairs place and place + 1."""
    acts = []
    for times, what in items:
        once = [act + place for act in LETTERS[what]] if what in LETTERS else acts_at(lets[what], lets, place)
        for _ in range(times):
            acts += once
    return acts


def acts_of_line(form, lets):
    """The acts that a line works."""
    kind, caught = form
    if kind == "do":
        return acts_at(split_items(caught[1]), lets, int(caught[0]))
    if kind == "row":
        return [act for place in caught[1].split() for act in acts_at(lets[caught[0]], lets, int(place))]
    if kind in ("twist", "cross"):
        return [int(caught[0]) + (64 if kind == "cross" else 0)] * int(caught[1])
    return []


def plain_read(text):
    """What read is to answer to a text of signs."""
    fault = first_fault(text)
    if fault:
        return [-5, *fault]
    lines = text.split("\n")[:-1]
    forms = [form_of(line) for line in lines[1:]]
    counts = counts_of(forms)
    lets = {caught[0]: split_items(caught[1]) for kind, caught in forms if kind == "let"}
    acts = []
    total = 0
    for number, form in worked_lines(tree_of(forms), counts):
        total += count_line(form, counts)
        if total > 4096:
            return [-5, 5, number]
        acts += acts_of_line(form, lets)
    return [0, int(lines[0].split(" ")[1]), *acts]


def put_in(items, lets):
    """Items as words with every name and every number written out."""
    words = []
    for times, what in items:
        words += ([what] if what in LETTERS else put_in(lets[what], lets)) * times
    return words


def written_out(text):
    """A text without a fault, with its repeats written out and its names put in."""
    lines = text.split("\n")[:-1]
    forms = [form_of(line) for line in lines[1:]]
    lets = {caught[0]: split_items(caught[1]) for kind, caught in forms if kind == "let"}
    out = [lines[0]]
    for number, (kind, caught) in worked_lines(tree_of(forms), counts_of(forms)):
        if kind == "do":
            out.append(" ".join(["do", caught[0], *put_in(split_items(caught[1]), lets)]))
        elif kind == "row":
            for place in caught[1].split():
                out.append(" ".join(["do", place, *put_in(lets[caught[0]], lets)]))
        elif kind != "let":
            out.append(lines[number])
    return "".join(line + "\n" for line in out)
