"""All six calls mixed, in long lists, held against a plain set."""

import random
import unittest

from tests.reference import puts, told
from wastenobit import keep

LIMIT = 16777216
MOST_CALLS = 10000
EDGES = [0, 1, LIMIT - 2, LIMIT - 1, LIMIT, LIMIT + 1, 4294967295]


def mixed(chance, pool, many):
    """So many calls other than fb_start, on numbers of the pool, beside them, anywhere and at the edges."""
    calls = []
    for step in range(many):
        call = chance.choice([1, 1, 2, 3, 4, 5, 5])
        where = chance.random()
        if where < 0.6:
            x = chance.choice(pool)
        elif where < 0.8:
            x = max(0, chance.choice(pool) + chance.choice([-2, -1, 1, 2]))
        elif where < 0.95:
            x = chance.randrange(LIMIT)
        else:
            x = chance.choice(EDGES)
        calls += [call] if call == 4 else [call, x]
    return calls


def strewn(chance):
    return chance.sample(range(LIMIT), 4096)


def dense(chance):
    base = chance.randrange(LIMIT - 4200)
    return chance.sample(range(base, base + 4200), 4096)


def clustered(chance):
    numbers = set()
    while len(numbers) < 4096:
        base = chance.randrange(LIMIT - 100)
        numbers.update(range(base, base + chance.randrange(1, 100)))
    return chance.sample(sorted(numbers), 4096)


def at_both_ends(chance):
    return chance.sample(list(range(2050)) + list(range(LIMIT - 2050, LIMIT)), 4096)


def crowded_at_one_end(chance):
    numbers = set()
    while len(numbers) < 4096:
        numbers.add(int(LIMIT * chance.random() ** 5))
    return chance.sample(sorted(numbers), 4096)


class Mixed(unittest.TestCase):

    def compare(self, calls, many):
        self.assertLessEqual(many, MOST_CALLS)
        self.assertLessEqual(len(calls), 30000)
        row = keep.answers(calls)
        self.assertEqual(len(row), 2 * many)
        expected = told(calls)
        if row != expected:
            wrong = [place for place in range(len(row)) if row[place] != expected[place]]
            self.fail(f"call {wrong[0] // 2}: {row[wrong[0]]}, but {expected[wrong[0]]} is asked")

    def compare_full_set(self, make, seed):
        chance = random.Random(seed)
        pool = make(chance)
        self.assertEqual(len(set(pool)), 4096)
        self.compare([0] + puts(pool) + mixed(chance, pool, MOST_CALLS - 4097), MOST_CALLS)

    def compare_two_starts(self, first, second, seed):
        chance = random.Random(seed)
        calls = [0]
        for make in (first, second):
            pool = make(chance)
            calls += puts(pool) + mixed(chance, pool, 900) + [0]
        self.compare(calls + [4] + mixed(chance, pool, 4), MOST_CALLS)

    def test_strewn(self):
        self.compare_full_set(strewn, 31)

    def test_dense(self):
        self.compare_full_set(dense, 32)

    def test_clustered(self):
        self.compare_full_set(clustered, 33)

    def test_at_both_ends(self):
        self.compare_full_set(at_both_ends, 34)

    def test_crowded_at_one_end(self):
        self.compare_full_set(crowded_at_one_end, 35)

    def test_full_sets_one_after_another(self):
        self.compare_two_starts(strewn, dense, 36)
        self.compare_two_starts(at_both_ends, clustered, 37)

    def test_from_the_empty_set(self):
        for make, seed in ((strewn, 38), (dense, 39), (clustered, 40), (at_both_ends, 41)):
            chance = random.Random(seed)
            self.compare([0] + mixed(chance, make(chance), MOST_CALLS - 1), MOST_CALLS)

    def test_down_to_the_empty_set(self):
        chance = random.Random(42)
        pool = strewn(chance)[:2400]
        calls = [0] + puts(pool)
        for x in chance.sample(pool, len(pool)):
            calls += [2, x, 5, x, 4]
        self.compare(calls + [5, 0], 2 + 4 * len(pool))

    def test_small_pools(self):
        for seed in range(60):
            chance = random.Random(1000 + seed)
            span = 2 ** chance.randrange(1, 25)
            base = chance.randrange(LIMIT - span + 1)
            pool = [base + chance.randrange(span) for step in range(chance.randrange(1, 40))]
            calls = [0]
            for turn in range(3):
                calls += mixed(chance, pool, 99) + [0]
            self.compare(calls, 301)


if __name__ == "__main__":
    unittest.main()
