"""What it stands for: the set is kept in 6882 bytes, whatever set it is, and in nothing else."""

import random
import unittest

from wastenobit import keep

LIMIT = 16777216


def hard_sets():
    chance = random.Random(11)
    yield list(range(4096))
    yield list(range(LIMIT - 4096, LIMIT))
    yield list(range(5000, 5000 + 4096))
    yield list(range(0, 8192, 2))
    yield [x * 4096 for x in range(4096)]
    yield [x * 4096 + 4095 for x in range(4096)]
    yield list(range(2048)) + list(range(LIMIT - 2048, LIMIT))
    yield [x // 65 * 250000 + x % 65 for x in range(4096)]
    yield chance.sample(range(LIMIT), 4096)
    yield chance.sample(range(LIMIT), 4096)
    yield sorted({int(LIMIT * chance.random() ** 6) for step in range(9000)})[:4096]
    yield [2 ** bit for bit in range(24)]
    yield [LIMIT - 1]
    yield []


def keeper_of(sizes, numbers):
    keeper = keep.Keeper()
    for x in numbers:
        assert keeper.put(sizes, x) == 0
    return keeper


def members(sizes, held):
    """Every number of the set, from the bytes alone."""
    found = []
    parts = [(0, 0, keep.read_whole(sizes, held))]
    while parts:
        depth, base, part = parts.pop()
        if part.many == 1:
            found.append(base + part.head)
        elif part.many > 1:
            fork = keep.split_part(sizes, depth, part, False)
            half = LIMIT >> (depth + 1)
            parts.append((depth + 1, base + half, fork.high_half))
            parts.append((depth + 1, base, fork.low_half))
    return found


def walked(sizes, keeper):
    """Every number of the set, from one answer of fb_next to the one behind it."""
    found = []
    x = keeper.least_from(sizes, 0)
    while x >= 0:
        found.append(x)
        x = keeper.least_from(sizes, x + 1)
    return found


class Bytes(unittest.TestCase):

    def assert_bytes_alone(self, keeper):
        self.assertEqual(list(vars(keeper)), ["held"])
        self.assertIs(type(keeper.held), list)
        self.assertEqual(len(keeper.held), 6882)
        self.assertTrue(all(type(value) is int and 0 <= value <= 255 for value in keeper.held))

    def test_hard_sets_are_told_by_the_bytes_alone(self):
        for numbers in hard_sets():
            keeper = keeper_of(keep.Sizes(), numbers)
            self.assert_bytes_alone(keeper)
            self.assertEqual(members(keep.Sizes(), keeper.held), sorted(numbers))
            self.assert_asked_from_the_bytes(keeper.held, numbers)

    def assert_asked_from_the_bytes(self, held, numbers):
        sizes = keep.Sizes()
        other = keep.Keeper()
        other.held = list(held)
        self.assertEqual(other.how_many(sizes), len(numbers))
        self.assertEqual(walked(sizes, other), sorted(numbers))
        for x in numbers[::9]:
            self.assertEqual(other.has(sizes, x), 1)
            self.assertEqual(other.has(sizes, x ^ 1), 1 if x ^ 1 in numbers else 0)
        self.assert_bytes_alone(other)
        self.assertEqual(other.held, held)

    def test_bytes_alone_after_every_call(self):
        sizes = keep.Sizes()
        keeper = keep.Keeper()
        chance = random.Random(12)
        self.assert_bytes_alone(keeper)
        kept = set()
        for step in range(600):
            x = chance.randrange(300) * 50000
            if chance.random() < 0.6:
                keeper.put(sizes, x)
                kept.add(x)
            else:
                keeper.drop(sizes, x)
                kept.discard(x)
            self.assert_bytes_alone(keeper)
            self.assertEqual(members(keep.Sizes(), keeper.held), sorted(kept))

    def test_another_object_goes_on_from_the_bytes(self):
        numbers = random.Random(13).sample(range(LIMIT), 4096)
        first = keeper_of(keep.Sizes(), numbers)
        second = keep.Keeper()
        second.held = list(first.held)
        sizes = keep.Sizes()
        self.assertEqual([second.put(sizes, x) for x in numbers[:50]], [-17] * 50)
        fresh = min(set(range(5000)) - set(numbers))
        self.assertEqual(second.put(sizes, fresh), -28)
        self.assertEqual(second.drop(sizes, numbers[7]), 0)
        self.assertEqual(second.put(sizes, fresh), 0)
        self.assertEqual(second.drop(sizes, numbers[7]), -2)

    def test_the_bytes_follow_from_the_set_alone(self):
        sizes = keep.Sizes()
        numbers = random.Random(14).sample(range(LIMIT), 300)
        keeper = keeper_of(sizes, numbers)
        detour = keeper_of(sizes, sorted(numbers) + list(range(40)))
        for x in range(40):
            detour.drop(sizes, x)
        self.assertEqual(detour.held, keeper.held)

    def test_a_refusal_leaves_the_bytes(self):
        sizes = keep.Sizes()
        keeper = keeper_of(sizes, range(0, 4096 * 3, 3))
        before = list(keeper.held)
        refused = [keeper.put(sizes, 1), keeper.put(sizes, 3), keeper.put(sizes, LIMIT), keeper.drop(sizes, 1),
                   keeper.drop(sizes, LIMIT)]
        self.assertEqual(refused, [-28, -17, -22, -2, -22])
        self.assertEqual(keeper.held, before)


class Bounds(unittest.TestCase):
    """No set is too many for its bytes: the contents of every part fit the heads and tails it has."""

    def test_every_split_of_every_part_fits(self):
        for depth in range(24):
            sizes = keep.Sizes()
            sizes.reach(depth, 4096)
            sizes.reach(depth + 1, 4096)
            for many in range(len(sizes.heads[depth])):
                self.assert_splits_fit(sizes, depth, many)

    def assert_splits_fit(self, sizes, depth, many):
        heads = sizes.heads[depth + 1]
        tails = sizes.tails[depth + 1]
        length = sizes.tails[depth][many]
        rare = keep.rare_heads(sizes, depth, many)
        taken = rare
        for low in range(keep.least_low(depth, many), many // 2 + 1):
            # A tail that is too short for those of the halves would make this shift fail.
            due = keep.share(heads, tails, length, low, many - low)
            if rare == 0 or due > keep.RARE:
                taken += due if low * 2 == many else due * 2
            else:
                # The walk from the even split outward must come by no rare one ahead of one that is not.
                self.assertEqual(taken, rare)
        if rare == 0:
            self.assertEqual(taken, sizes.heads[depth][many])
        else:
            self.assertLessEqual(taken, sizes.heads[depth][many])

    def test_every_count_fits_the_first_bytes(self):
        sizes = keep.Sizes()
        sizes.reach(0, 4096)
        self.assertEqual(sizes.tails[0][4096] + 7, 6882)
        self.assertLessEqual(4096 * keep.SLOT + sizes.heads[0][4096], 256 ** 7)
        for many in range(4096):
            due = keep.shifted_up(sizes.heads[0][many], 6875 - sizes.tails[0][many])
            self.assertLessEqual(due, keep.SLOT)

    def test_one_byte_less_has_fewer_states_than_there_are_sets(self):
        ways = 1
        total = 1
        for count in range(1, 4097):
            ways = ways * (LIMIT - count + 1) // count
            total += ways
        self.assertGreater(total, 256 ** 6881)
        self.assertLessEqual(total, 256 ** 6882)


if __name__ == "__main__":
    unittest.main()
