"""fb_start, fb_put and fb_drop (points 1 to 3), and the form of what is handed in and given back."""

import contextlib
import io
import random
import time
import unittest

from tests.reference import asks, drops, puts, seeks, single, told
from wastenobit import keep

TOP = 16777215
FULL_SET = [x * 4093 % 16777216 for x in range(4096)]


class Start(unittest.TestCase):

    def test_no_call(self):
        self.assertEqual(keep.answers([]), [])

    def test_start_alone(self):
        self.assertEqual(keep.answers([0]), [1, 0])

    def test_start_empties_the_set(self):
        calls = [0] + puts([5, 9]) + [0] + drops([5, 9]) + puts([5, 9])
        self.assertEqual(single(calls), [0, 0, 0, 0, -2, -2, 0, 0])

    def test_start_empties_the_full_set(self):
        calls = [0] + puts(FULL_SET) + [1, 1, 0, 1, 1] + puts(FULL_SET[1:3])
        self.assertEqual(single(calls)[4097:], [-28, 0, 0, 0, 0])

    def test_start_twice(self):
        self.assertEqual(keep.answers([0, 0]), [1, 0, 1, 0])


class Put(unittest.TestCase):

    def test_in_and_again(self):
        self.assertEqual(keep.answers([0, 1, 77, 1, 77]), [1, 0, 1, 0, 1, -17])

    def test_edges_of_x(self):
        calls = [0] + puts([0, TOP, TOP + 1, 4294967295, 0, TOP])
        self.assertEqual(single(calls), [0, 0, 0, -22, -22, -17, -17])

    def test_what_is_above_is_not_folded_onto_a_number_below(self):
        calls = [0] + puts([TOP + 1 + 7, 7, TOP + 1 + 7])
        self.assertEqual(single(calls), [0, -22, 0, -22])

    def test_full_set(self):
        self.assertEqual(len(set(FULL_SET)), 4096)
        calls = [0] + puts(FULL_SET) + puts([1, FULL_SET[0], FULL_SET[-1], TOP + 1, 4294967295])
        self.assertEqual(single(calls), [0] + [0] * 4096 + [-28, -17, -17, -22, -22])

    def test_room_for_just_one_after_a_drop(self):
        calls = [0] + puts(FULL_SET) + [1, 1, 2, FULL_SET[9], 1, 1, 1, 2, 1, FULL_SET[9], 1, 1]
        self.assertEqual(single(calls)[4097:], [-28, 0, 0, -28, -28, -17])


class Drop(unittest.TestCase):

    def test_out_and_again(self):
        self.assertEqual(single([0, 1, 5, 2, 5, 2, 5]), [0, 0, 0, -2])

    def test_never_in(self):
        self.assertEqual(single([0, 2, 5, 1, 6, 2, 5, 2, 7]), [0, -2, 0, -2, -2])

    def test_edges_of_x(self):
        calls = [0] + puts([0, TOP]) + drops([TOP + 1, 4294967295, 0, TOP, 0, TOP])
        self.assertEqual(single(calls), [0, 0, 0, -22, -22, 0, 0, -2, -2])

    def test_in_again_after_a_drop(self):
        self.assertEqual(single([0, 1, 5, 2, 5, 1, 5, 1, 5]), [0, 0, 0, 0, -17])

    def test_drop_of_a_full_set_one_by_one(self):
        calls = [0] + puts(FULL_SET) + drops(reversed(FULL_SET)) + drops(FULL_SET[:5])
        self.assertEqual(single(calls), [0] + [0] * 8192 + [-2] * 5)


class AsItWas(unittest.TestCase):

    def test_each_refusal_leaves_the_set(self):
        for refused in ([1, 5], [1, TOP + 1], [2, 6], [2, TOP + 1], [2, 4294967295]):
            calls = [0] + puts([5, 900, TOP]) + refused * 3 + drops([5, 6, 900, TOP])
            self.assertEqual(single(calls)[-4:], [0, -2, 0, 0])

    def test_refusals_leave_the_full_set(self):
        refused = [1, 1, 1, FULL_SET[3], 1, TOP + 1, 2, 1, 2, TOP + 1]
        calls = [0] + puts(FULL_SET) + refused + drops([1] + FULL_SET)
        self.assertEqual(single(calls)[4097:], [-28, -17, -22, -2, -22, -2] + [0] * 4096)


class LikeTheReference(unittest.TestCase):

    def compare(self, pool, seed, filled, mixed):
        chance = random.Random(seed)
        calls = [0] + puts(pool[:filled])
        for step in range(mixed):
            calls += [chance.choice([1, 2]), chance.choice(pool)]
        self.assertEqual(keep.answers(calls), told(calls))

    def test_small_pools(self):
        for seed in range(40):
            chance = random.Random(seed)
            span = 2 ** chance.randrange(1, 25)
            base = chance.randrange(16777216 - span + 1)
            pool = [base + chance.randrange(span) for step in range(30)]
            self.compare(pool, seed, 0, 200)

    def test_strewn(self):
        self.compare(random.Random(1).sample(range(16777216), 5000), 1, 4100, 1500)

    def test_dense(self):
        pool = list(range(3000000, 3005000))
        random.Random(2).shuffle(pool)
        self.compare(pool, 2, 4100, 1500)

    def test_at_both_ends(self):
        self.compare(list(range(2200)) + list(range(16777216 - 2200, 16777216)), 3, 4100, 1500)

    def test_clusters(self):
        self.compare([x // 65 * 250000 + x % 65 for x in range(4300)], 4, 4100, 1500)

    def test_even_steps(self):
        self.compare([x * 4096 for x in range(4096)] + [x * 4096 + 1 for x in range(200)], 5, 4096, 1500)

    def test_crowded_at_one_end(self):
        chance = random.Random(6)
        self.compare([int(16777216 * chance.random() ** 8) for step in range(6000)], 6, 5000, 1500)

    def test_powers(self):
        pool = [2 ** bit for bit in range(24)] + [2 ** bit - 1 for bit in range(25)]
        self.compare(pool, 7, 49, 1500)


class NothingBesides(unittest.TestCase):

    def test_what_is_handed_in_is_never_changed(self):
        class Sealed(list):
            def refuse(self, *values):
                raise AssertionError("the list was changed")
            append = extend = insert = pop = remove = clear = sort = reverse = refuse
            __setitem__ = __delitem__ = __iadd__ = __imul__ = refuse

        asked = asks([4, 9, TOP + 1]) + [4] + seeks([0, 9, 10, TOP + 1])
        calls = [0] + puts([4, 4, 9, TOP + 1]) + asked + drops([4, 4, TOP + 1]) + asked + [0]
        self.assertEqual(keep.answers(Sealed(calls)), told(calls))
        handed = list(calls)
        keep.answers(handed)
        self.assertEqual(handed, calls)

    def test_the_same_again(self):
        calls = [0] + puts(range(0, 900000, 1000)) + drops(range(0, 900000, 3000))
        first = keep.answers(calls)
        self.assertEqual(keep.answers(calls), first)
        first.append(5)
        self.assertEqual(keep.answers(calls), first[:-1])

    def test_one_time_leaves_nothing_for_the_next(self):
        keep.answers([0, 1, 5])
        self.assertEqual(single([0, 4, 3, 5, 5, 0, 2, 5, 1, 5]), [0, 0, 0, -2, -2, 0])

    def test_whole_numbers_in_a_list(self):
        row = keep.answers([0, 1, 5, 3, 5, 3, 6, 4, 5, 0, 1, 5, 2, 5, 4, 2, 5, 1, TOP + 1, 3, TOP + 1, 5, TOP + 1])
        self.assertIs(type(row), list)
        self.assertEqual({type(value) for value in row}, {int})

    def test_nothing_is_printed(self):
        out = io.StringIO()
        err = io.StringIO()
        with contextlib.redirect_stdout(out), contextlib.redirect_stderr(err):
            keep.answers([0, 1, 5, 3, 5, 4, 5, 0, 2, 5, 5, 0])
        self.assertEqual(out.getvalue() + err.getvalue(), "")


class InTime(unittest.TestCase):

    def test_ten_thousand_calls(self):
        chance = random.Random(8)
        pools = [chance.sample(range(16777216), 4500), list(range(4500))]
        for pool in pools:
            calls = [0] + puts(pool[:4096])
            for step in range(5903):
                calls += [chance.choice([1, 2]), chance.choice(pool)]
            began = time.monotonic()
            row = keep.answers(calls)
            self.assertLess(time.monotonic() - began, 60)
            self.assertEqual(len(row), 20000)
            self.assertEqual(row, told(calls))

    def test_ten_thousand_starts(self):
        self.assertEqual(keep.answers([0] * 10000), [1, 0] * 10000)


if __name__ == "__main__":
    unittest.main()
