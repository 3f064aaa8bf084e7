"""A slow second writing of the document, over labels, to compare the package with."""

import itertools

RULES = ("first", "greater", "last", "less")


def keep(label, held, came):
    """Return what a cell keeps and what it passes on."""
    if label == "first":
        first_wins = True
    elif label == "last":
        first_wins = False
    elif label == "less":
        first_wins = held <= came
    elif label == "greater":
        first_wins = held >= came
    else:
        mark = int(label.split(":")[1])
        first_wins = abs(held - mark) <= abs(came - mark)
    return (held, came) if first_wins else (came, held)


def tick(labels, held, number):
    """Return what the cells hold after a tick, and what comes out in it."""
    cells = list(held)
    moving = number
    for at, label in enumerate(labels):
        if moving is None:
            break
        if cells[at] is None:
            cells[at], moving = moving, None
        else:
            cells[at], moving = keep(label, cells[at], moving)
    return tuple(cells), moving


def run(labels, numbers):
    """Return what the cells hold before each tick and after the last one, and what comes out in each."""
    helds = [(None,) * len(labels)]
    outs = []
    for number in numbers:
        held, out = tick(labels, helds[-1], number)
        helds.append(held)
        outs.append(out)
    return helds, outs


def again(labels, row, ticks):
    """Do the same with a row that comes again and again."""
    return run(labels, [row[tick % len(row)] for tick in range(ticks)])


def cycle(labels, row, ticks):
    """Find the first tick that is repeated, by comparing all pairs of ticks."""
    helds = again(labels, row, ticks)[0]
    for one in range(ticks):
        for two in range(one + 1, ticks):
            if helds[one] == helds[two] and one % len(row) == two % len(row):
                return one, two - one
    return None


def holdings(many, values):
    """Return all tuples of what so many cells can hold, filled from the first one on."""
    return [
        numbers + (None,) * (many - filled)
        for filled in range(many + 1)
        for numbers in itertools.product(values, repeat=filled)
    ]


def before_ticks(labels, values):
    """Let each number into each holding; return a dict from what is so after that to what was before."""
    found = {}
    for held in holdings(len(labels), values):
        for number in values:
            found.setdefault(tick(labels, held, number), []).append((number, held))
    return found


def rows_to(labels, rows):
    """Let each row in; return a dict from what is held and what came out to the rows that lead there."""
    found = {}
    for row in rows:
        helds, outs = run(labels, row)
        found.setdefault((helds[-1], tuple(outs)), []).append(list(row))
    return found


def telling(labels, others, values, longest):
    """Try all rows up to a length, by length and in list order."""
    for length in range(1, longest + 1):
        for row in itertools.product(sorted(set(values)), repeat=length):
            if run(labels, row)[1][-1] != run(others, row)[1][-1]:
                return list(row)
    return None


def labels_for(row, outs):
    """Try all chains in the order of their labels; return the labels of the first one, or None."""
    many = outs.count(None)
    for labels in itertools.product(RULES, repeat=many):
        if many > 0 and run(labels, row)[1] == outs:
            return list(labels)
    return None


def rules_left(labels, index, pairs):
    """Return the rules at an index for which all that was observed came out."""
    left = []
    for rule in RULES:
        tried = [*labels[:index], rule, *labels[index + 1:]]
        if run(tried, [number for number, out in pairs])[1] == [out for number, out in pairs]:
            left.append(rule)
    return left


def best(labels, index, pairs, numbers):
    """Return the first number that leaves the fewest rules whatever comes out."""
    def worst(number):
        came = [number for number, out in pairs] + [number]
        outs = []
        for rule in rules_left(labels, index, pairs):
            outs.append(run([*labels[:index], rule, *labels[index + 1:]], came)[1][-1])
        return max(outs.count(out) for out in outs)

    return sorted(numbers, key=worst)[0]


def work(labels, operations):
    """Execute operations that succeed; return the labels, what is held, what came out and the words in effect.

    The state is made anew from the operations in effect, so undoing is forgetting one of them.
    """
    in_effect = []
    undone = []
    for operation in operations:
        if operation[0] == "undo":
            if in_effect:
                undone.append(in_effect.pop())
        elif operation[0] == "redo":
            if undone:
                in_effect.append(undone.pop())
        else:
            in_effect.append(operation)
            undone = []
    return work_straight(labels, in_effect)


def work_straight(labels, operations):
    labels = list(labels)
    held = (None,) * len(labels)
    outs = []
    for word, argument in operations:
        if word == "put":
            held, out = tick(labels, held, argument)
            outs.extend([] if out is None else [out])
        elif word == "take":
            numbers = [number for at, number in enumerate(held) if at != argument]
            held = tuple(numbers + [None])
        else:
            labels[argument:argument + 2] = labels[argument:argument + 2][::-1]
    return " ".join(labels), held, outs, [word for word, argument in operations]
