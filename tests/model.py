"""A slow second writing of the document, over labels, to compare the package with."""


def keep(label, held, came):
    """Return what a cell keeps and what it passes on."""
    if label == "first":
        first_wins = True
    elif label == "last":
        first_wins = False
    elif label == "less":
        first_wins = held <= came
    elif label == "greater":
        first_wins = held >= came
    else:
        mark = int(label.split(":")[1])
        first_wins = abs(held - mark) <= abs(came - mark)
    return (held, came) if first_wins else (came, held)


def run(labels, numbers):
    """Return what the cells hold before each tick and after the last one, and what comes out in each."""
    cells = [None] * len(labels)
    helds = [tuple(cells)]
    outs = []
    for number in numbers:
        moving = number
        for at, label in enumerate(labels):
            if moving is None:
                break
            if cells[at] is None:
                cells[at], moving = moving, None
            else:
                cells[at], moving = keep(label, cells[at], moving)
        helds.append(tuple(cells))
        outs.append(moving)
    return helds, outs


def again(labels, row, ticks):
    """Do the same with a row that comes again and again."""
    return run(labels, [row[tick % len(row)] for tick in range(ticks)])


def cycle(labels, row, ticks):
    """Find the first tick that is repeated, by comparing all pairs of ticks."""
    helds = again(labels, row, ticks)[0]
    for one in range(ticks):
        for two in range(one + 1, ticks):
            if helds[one] == helds[two] and one % len(row) == two % len(row):
                return one, two - one
    return None
