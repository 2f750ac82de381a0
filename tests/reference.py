"""What the document asks, over a plain set: the tests compare the program's answers with these."""

LIMIT = 16777216
MOST = 4096


def put(kept, x):
    if x >= LIMIT:
        return -22
    if x in kept:
        return -17
    if len(kept) == MOST:
        return -28
    kept.add(x)
    return 0


def drop(kept, x):
    if x >= LIMIT:
        return -22
    if x not in kept:
        return -2
    kept.remove(x)
    return 0


def told(calls):
    kept = set()
    row = []
    walk = iter(calls)
    for call in walk:
        if call == 0:
            kept = set()
            row += [1, 0]
        elif call == 1:
            row += [1, put(kept, next(walk))]
        else:
            row += [1, drop(kept, next(walk))]
    return row


def puts(numbers):
    return [value for x in numbers for value in (1, x)]


def drops(numbers):
    return [value for x in numbers for value in (2, x)]
