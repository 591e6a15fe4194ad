"""Workings for the tests of write, and what they are to be written as, found apart from the program."""
import itertools
import random

PLACES = {**{k: {2 * k, 2 * k + 1} for k in range(32)}, **{64 + k: {2 * k + 1, 2 * k + 2} for k in range(31)}}


def acts_of_pairs(pairs):
    """Every act of so many pairs."""
    return [*range(pairs), *range(64, 64 + pairs - 1)]


def same_laces(acts):
    """Every working that is the same lace, found by changing about side by side acts again and again."""
    found = {tuple(acts)}
    fresh = list(found)
    while fresh:
        working = fresh.pop()
        for k in range(len(working) - 1):
            left, right = working[k:k + 2]
            if PLACES[left] & PLACES[right]:
                continue
            changed = (*working[:k], right, left, *working[k + 2:])
            if changed not in found:
                found.add(changed)
                fresh.append(changed)
    return found


def plain_form(acts):
    """The form, act by act: the least of those that touch none before them."""
    left, form = list(acts), []
    while left:
        taken, free = set(), []
        for k, act in enumerate(left):
            if not PLACES[act] & taken:
                free.append((act, k))
            taken |= PLACES[act]
        form.append(left.pop(min(free)[1]))
    return form


def plain_text(pairs, form):
    """The text of a form."""
    lines = [f"pairs {pairs}"]
    for act, alike in itertools.groupby(form):
        word, place = ("cross", act - 64) if act >= 64 else ("twist", act)
        lines.append(f"{word} {place} {len(list(alike))}")
    return "\n".join(lines) + "\n"


def drawn_working(seed, size):
    """Pairs and a working of so many acts: of all acts, of few, or of acts that stand together in part."""
    chance = random.Random(f"working {seed} {size}")
    pairs = chance.choice([1, 2, 3, 4, 5, 8, 16, 31, 32])
    choices = acts_of_pairs(pairs)
    if chance.random() < 0.4:
        choices = chance.sample(choices, min(len(choices), chance.randint(1, 6)))
    most = chance.choice([1, 1, 3, 20])
    acts = []
    while len(acts) < size:
        acts += [chance.choice(choices)] * chance.randint(1, most)
    return pairs, acts[:size]


def changed_about(acts, seed, times):
    """Another working that is the same lace."""
    chance = random.Random(f"changed {seed}")
    acts = list(acts)
    for _ in range(times if len(acts) > 1 else 0):
        k = chance.randrange(len(acts) - 1)
        if not PLACES[acts[k]] & PLACES[acts[k + 1]]:
            acts[k], acts[k + 1] = acts[k + 1], acts[k]
    return acts
