"""What the document asks, over a plain set: the tests compare the program's answers with these."""

from wastenobit import keep

LIMIT = 16777216
MOST = 4096


def put(kept, x):
    if x >= LIMIT:
        return -22
    if x in kept:
        return -17
    if len(kept) == MOST:
        return -28
    kept.add(x)
    return 0


def drop(kept, x):
    if x >= LIMIT:
        return -22
    if x not in kept:
        return -2
    kept.remove(x)
    return 0


def has(kept, x):
    if x >= LIMIT:
        return -22
    return 1 if x in kept else 0


def least_from(kept, x):
    if x >= LIMIT:
        return -22
    return min((y for y in kept if y >= x), default=-2)


def told(calls):
    with_number = {1: put, 2: drop, 3: has, 5: least_from}
    kept = set()
    row = []
    walk = iter(calls)
    for call in walk:
        if call == 0:
            kept = set()
            row += [1, 0]
        elif call == 4:
            row += [1, len(kept)]
        else:
            row += [1, with_number[call](kept, next(walk))]
    return row


def single(calls):
    """The program's answers alone, after a look at the counts before them."""
    row = keep.answers(calls)
    assert row[0::2] == [1] * (len(row) // 2), row
    return row[1::2]


def each(call, numbers):
    return [value for x in numbers for value in (call, x)]


def puts(numbers):
    return each(1, numbers)


def drops(numbers):
    return each(2, numbers)


def asks(numbers):
    return each(3, numbers)


def seeks(numbers):
    return each(5, numbers)
