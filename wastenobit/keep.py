"""A set of up to 4096 numbers below 16777216, kept in 6882 bytes from one call to the next.

The numbers that share their first bits make up a part; the whole is the part at depth 0, and each part has
two halves at the next depth. Which numbers of a part are in the set is told by a head, one number below a
known bound, and a tail, a known number of bytes. Bound and length follow from the part's depth and from how
many of its numbers are in the set, so neither is written down. A part's head tells how many numbers its lower
half has; the heads of its halves are one number in mixed base, whose low bytes begin the part's tail; the
tails of the halves end it. So a call takes apart, and puts together, the parts around one number alone.

A part has as many heads and tails as it has contents, or a hair more: that is why 6882 bytes are enough.

All stands in one file, since the document asks that nothing is imported.
"""

LIMIT = 16777216
BITS = 24
MOST = 4096
BYTES = 6882

# The first bytes hold the head of the whole, and how many numbers the set has.
HEAD_BYTES = 7
# So many heads for each count below 4096: 2 to the 42, where the sets with 4095 numbers need 2 to the 41.3.
# The sets with 4096 numbers take what stands above these slots, and stay below 256 to the 7.
SLOT = 4398046511104

# 256 to the 7: a part with fewer contents is all head, and its bound is exact.
HEAD_LIMIT = 72057594037927936
# 256 to the 16: as many digits are carried along while the bounds are worked out.
CARRY_LIMIT = 340282366920938463463374607431768211456
# Two heads in mixed base never have more bytes than this.
PAIR_BYTES = 14

# A rare way to split a part gets this many heads, whatever its due, so that it is found without a long walk.
# The bounds are raised by 1 in 2 to the 34 for each number and each bit: that pays for it, and for rounding.
RARE = 4096
RAISE_BITS = 34

# How many numbers stand behind the number of a call.
BEHIND_CALL = (0, 1, 1, 1, 0, 1)

ABOVE_LIMIT = -22
IS_IN = -17
IS_FULL = -28
IS_NOT_IN = -2
NONE_FROM_THERE = -2


# The bound of the head and the length of the tail, for a depth and a count. They are worked out as far as
# they are asked for, since few of them are needed. Nothing of a set is in them.
class Sizes:

    def __init__(self):
        self.heads = [[1] for depth in range(BITS + 1)]
        self.tails = [[0] for depth in range(BITS + 1)]
        self.carried = [1 for depth in range(BITS + 1)]
        self.shifted = [0 for depth in range(BITS + 1)]

    def reach(self, depth, many):
        there = len(self.heads[depth])
        if there > many:
            return
        for count in range(there, min(many, LIMIT >> depth) + 1):
            self.add_size(depth, count)

    def add_size(self, depth, count):
        heads = self.heads[depth]
        tails = self.tails[depth]
        others = (LIMIT >> depth) - count
        if others < count:
            # There are as many ways to choose what is out as to choose what is in.
            heads.append(heads[others])
            tails.append(tails[others])
            return
        self.carry(depth, count, others)
        ways = self.carried[depth]
        shifted = self.shifted[depth]
        if shifted == 0 and ways < HEAD_LIMIT:
            heads.append(ways)
            tails.append(0)
            return
        raised = ways + (ways * count * (BITS - depth) >> RAISE_BITS) + 1
        # A head keeps 49 to 56 bits, so that rounding it up costs next to nothing.
        extra = (raised.bit_length() - 49) // 8
        heads.append(shifted_up(raised, extra))
        tails.append(shifted + extra)

    # From the ways to choose count - 1 numbers to those to choose count: never too few, so rounded up.
    def carry(self, depth, count, others):
        ways = (self.carried[depth] * (others + 1) + count - 1) // count
        while ways >= CARRY_LIMIT:
            ways = shifted_up(ways, 1)
            self.shifted[depth] += 1
        self.carried[depth] = ways


class Part:

    def __init__(self, many, head, tail):
        self.many = many
        self.head = head
        self.tail = tail


# The two halves of a part, and in which of them the way to a number goes on.
class Fork:

    def __init__(self, low_half, high_half, is_high):
        self.low_half = low_half
        self.high_half = high_half
        self.is_high = is_high


# The forks on the way to a number, down to where it is alone or nothing is; place is counted from there.
class Path:

    def __init__(self, forks, place, is_found):
        self.forks = forks
        self.place = place
        self.is_found = is_found


def shifted_up(value, length):
    return ((value - 1) >> (8 * length)) + 1


def last_bytes(value, length):
    written = min(length, PAIR_BYTES)
    row = []
    for position in range(written):
        row.append((value >> (8 * position)) & 255)
    row.extend([0] * (length - written))
    row.reverse()
    return row


# A long row is only filled up with 0, and has value 0 before it; so its last bytes are enough.
def with_bytes(value, row):
    for byte in row[-PAIR_BYTES:]:
        value = value * 256 + byte
    return value


def least_low(depth, many):
    return max(0, many - (LIMIT >> (depth + 1)))


# How many heads of a part are due to its contents with so many numbers in the low half.
def share(heads, tails, length, low, high):
    # This is shifted_up, written out because a walk asks for nothing else.
    return ((heads[low] * heads[high] - 1) >> (8 * (length - tails[low] - tails[high]))) + 1


# The heads of the rare splits stand ahead of all others. A part that is all head has none to spare for them.
def rare_heads(sizes, depth, many):
    if sizes.tails[depth][many] == 0:
        return 0
    return (many - 2 * least_low(depth, many) + 1) * RARE


# How many numbers the low half has, and how far the head is above the first one for that.
def find_split(sizes, depth, many, head):
    rare = rare_heads(sizes, depth, many)
    if head < rare:
        return (least_low(depth, many) + head // RARE, head % RARE)
    head -= rare
    heads = sizes.heads[depth + 1]
    tails = sizes.tails[depth + 1]
    length = sizes.tails[depth][many]
    # The walk goes from the even split outward, since most sets are near it; both sides have the same due.
    few = many // 2
    due = share(heads, tails, length, few, many - few)
    both = due if few * 2 == many else due * 2
    while head >= both:
        head -= both
        few -= 1
        due = share(heads, tails, length, few, many - few)
        both = due * 2
    if head < due:
        return (many - few, head)
    return (few, head - due)


def first_head(sizes, depth, many, low):
    heads = sizes.heads[depth + 1]
    tails = sizes.tails[depth + 1]
    length = sizes.tails[depth][many]
    rare = rare_heads(sizes, depth, many)
    due = share(heads, tails, length, low, many - low)
    if rare > 0 and due <= RARE:
        return (low - least_low(depth, many)) * RARE
    head = rare
    for nearer in range(min(low, many - low) + 1, many // 2 + 1):
        nearer_due = share(heads, tails, length, nearer, many - nearer)
        head += nearer_due if nearer * 2 == many else nearer_due * 2
    if low < many - low:
        head += due
    return head


def split_part(sizes, depth, part, is_high):
    sizes.reach(depth + 1, part.many)
    heads = sizes.heads[depth + 1]
    tails = sizes.tails[depth + 1]
    split = find_split(sizes, depth, part.many, part.head)
    low = split[0]
    high = part.many - low
    start = len(part.tail) - tails[low] - tails[high]
    middle = start + tails[low]
    pair = with_bytes(split[1], part.tail[:start])
    low_half = Part(low, pair // heads[high], part.tail[start:middle])
    high_half = Part(high, pair % heads[high], part.tail[middle:])
    return Fork(low_half, high_half, is_high)


def join_halves(sizes, depth, low_half, high_half):
    many = low_half.many + high_half.many
    sizes.reach(depth, many)
    sizes.reach(depth + 1, many)
    length = sizes.tails[depth][many] - len(low_half.tail) - len(high_half.tail)
    pair = low_half.head * sizes.heads[depth + 1][high_half.many] + high_half.head
    head = first_head(sizes, depth, many, low_half.many) + (pair >> (8 * length))
    tail = last_bytes(pair, length)
    tail.extend(low_half.tail)
    tail.extend(high_half.tail)
    return Part(many, head, tail)


def read_whole(sizes, held):
    value = with_bytes(0, held[:HEAD_BYTES])
    many = min(value // SLOT, MOST)
    sizes.reach(0, many)
    start = BYTES - sizes.tails[0][many]
    head = with_bytes(value - many * SLOT, held[HEAD_BYTES:start])
    return Part(many, head, held[start:])


def write_whole(whole):
    length = BYTES - HEAD_BYTES - len(whole.tail)
    value = whole.many * SLOT + (whole.head >> (8 * length))
    return last_bytes(value, HEAD_BYTES) + last_bytes(whole.head, length) + whole.tail


def find_path(sizes, whole, x):
    forks = []
    part = whole
    place = x
    # The head of a part with one number is that number's place, so the way ends early there.
    while part.many > 1 or (part.many == 1 and part.head != place):
        depth = len(forks)
        half = LIMIT >> (depth + 1)
        fork = split_part(sizes, depth, part, place >= half)
        part = fork.high_half if fork.is_high else fork.low_half
        place = place % half
        forks.append(fork)
    return Path(forks, place, part.many == 1)


def with_end(sizes, path, end):
    part = end
    depth = len(path.forks)
    for fork in reversed(path.forks):
        depth -= 1
        if fork.is_high:
            part = join_halves(sizes, depth, fork.low_half, part)
        else:
            part = join_halves(sizes, depth, part, fork.high_half)
    return part


# The least number of a part that has some; base is the least that the part could have.
def least_in(sizes, depth, part, base):
    while part.many > 1:
        fork = split_part(sizes, depth, part, False)
        depth += 1
        part = fork.low_half
        if part.many == 0:
            part = fork.high_half
            base += LIMIT >> depth
    return base + part.head


# What is above x stands in the high halves that its way passed by; the later it passed one, the nearer that is.
def least_above(sizes, path, x):
    depth = len(path.forks)
    for fork in reversed(path.forks):
        if not fork.is_high and fork.high_half.many > 0:
            half = LIMIT >> depth
            return least_in(sizes, depth, fork.high_half, x - x % half + half)
        depth -= 1
    return NONE_FROM_THERE


# The object of the calls: the bytes in held are all that it keeps.
class Keeper:

    def __init__(self):
        self.held = [0] * BYTES

    def start_anew(self):
        self.held = [0] * BYTES
        return 0

    def put(self, sizes, x):
        if x >= LIMIT:
            return ABOVE_LIMIT
        whole = read_whole(sizes, self.held)
        path = find_path(sizes, whole, x)
        if path.is_found:
            return IS_IN
        if whole.many == MOST:
            return IS_FULL
        self.held = write_whole(with_end(sizes, path, Part(1, path.place, [])))
        return 0

    def drop(self, sizes, x):
        if x >= LIMIT:
            return ABOVE_LIMIT
        path = find_path(sizes, read_whole(sizes, self.held), x)
        if not path.is_found:
            return IS_NOT_IN
        self.held = write_whole(with_end(sizes, path, Part(0, 0, [])))
        return 0

    def has(self, sizes, x):
        if x >= LIMIT:
            return ABOVE_LIMIT
        path = find_path(sizes, read_whole(sizes, self.held), x)
        return 1 if path.is_found else 0

    def how_many(self, sizes):
        return read_whole(sizes, self.held).many

    def least_from(self, sizes, x):
        if x >= LIMIT:
            return ABOVE_LIMIT
        path = find_path(sizes, read_whole(sizes, self.held), x)
        if path.is_found:
            return x
        return least_above(sizes, path, x)


def answer(sizes, keeper, call, row):
    if call == 0:
        return keeper.start_anew()
    if call == 1:
        return keeper.put(sizes, row[0])
    if call == 2:
        return keeper.drop(sizes, row[0])
    if call == 3:
        return keeper.has(sizes, row[0])
    if call == 4:
        return keeper.how_many(sizes)
    return keeper.least_from(sizes, row[0])


def answers(calls):
    sizes = Sizes()
    keeper = Keeper()
    told = []
    position = 0
    while position < len(calls):
        call = calls[position]
        behind = position + 1 + BEHIND_CALL[call]
        told.append(1)
        told.append(answer(sizes, keeper, call, calls[position + 1:behind]))
        position = behind
    return told
