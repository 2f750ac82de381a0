"""fb_has, fb_many and fb_next (points 4 to 6)."""

import random
import unittest

from tests.reference import asks, drops, puts, seeks, single, told

TOP = 16777215
ABOVE = [TOP + 1, TOP + 2, 2 ** 31 - 1, 2 ** 31, 4294967295]
FULL_SET = [x * 4093 % 16777216 for x in range(4096)]


def answers_after(calls, asked):
    """What the calls in asked answer once those in calls are made."""
    return single(calls + asked)[len(told(calls)) // 2:]


class Has(unittest.TestCase):

    def test_in_and_not_in(self):
        calls = [0] + puts([5, 900, 70000])
        self.assertEqual(answers_after(calls, asks([5, 900, 70000])), [1, 1, 1])
        self.assertEqual(answers_after(calls, asks([0, 4, 6, 899, 901, 69999, 70001, TOP])), [0] * 8)

    def test_empty_set(self):
        self.assertEqual(answers_after([0], asks([0, 1, 5, TOP])), [0] * 4)

    def test_after_a_drop(self):
        self.assertEqual(answers_after([0] + puts([5, 6]) + drops([5]), asks([5, 6])), [0, 1])
        self.assertEqual(answers_after([0] + puts([5, 6]) + drops([5, 6]), asks([5, 6])), [0, 0])
        self.assertEqual(answers_after([0] + puts([5]) + drops([5]) + puts([5]), asks([5])), [1])

    def test_after_a_second_start(self):
        self.assertEqual(answers_after([0] + puts([5, 6, TOP]) + [0], asks([5, 6, TOP])), [0, 0, 0])
        self.assertEqual(answers_after([0] + puts([5, 6]) + [0] + puts([6]), asks([5, 6])), [0, 1])
        self.assertEqual(answers_after([0] + puts(FULL_SET) + [0], asks(FULL_SET[:40])), [0] * 40)

    def test_edges_of_x_in_the_set(self):
        self.assertEqual(answers_after([0] + puts([0, TOP]), asks([0, TOP])), [1, 1])
        self.assertEqual(answers_after([0] + puts([0]), asks([0, TOP])), [1, 0])
        self.assertEqual(answers_after([0] + puts([TOP]), asks([0, TOP])), [0, 1])

    def test_above(self):
        for calls in ([0], [0] + puts([0, 1, TOP]), [0] + puts(FULL_SET)):
            self.assertEqual(answers_after(calls, asks(ABOVE)), [-22] * len(ABOVE))

    def test_what_is_above_is_not_folded_onto_a_number_below(self):
        calls = [0] + puts([7, TOP + 1 + 8])
        self.assertEqual(answers_after(calls, asks([TOP + 1 + 7, TOP + 1 + 8, 7, 8])), [-22, -22, 1, 0])

    def test_after_refusals(self):
        calls = [0] + puts([5, 5, TOP + 1]) + drops([6, TOP + 1])
        self.assertEqual(answers_after(calls, asks([5, 6])), [1, 0])

    def test_full_set(self):
        others = [x for x in range(0, TOP, 20011) if x not in set(FULL_SET)]
        calls = [0] + puts(FULL_SET) + puts(others[:50])
        self.assertEqual(answers_after(calls, asks(FULL_SET)), [1] * 4096)
        self.assertEqual(answers_after(calls, asks(others)), [0] * len(others))


class Many(unittest.TestCase):

    def test_after_start(self):
        self.assertEqual(single([0, 4]), [0, 0])

    def test_after_puts_and_drops(self):
        calls = [0, 4, 1, 5, 4, 1, 6, 4, 1, TOP, 4, 2, 6, 4, 2, 5, 4, 2, TOP, 4, 1, 0, 4]
        self.assertEqual(single(calls), [0, 0, 0, 1, 0, 2, 0, 3, 0, 2, 0, 1, 0, 0, 0, 1])

    def test_twice(self):
        self.assertEqual(single([0, 1, 5, 4, 4]), [0, 0, 1, 1])

    def test_after_refusals(self):
        calls = [0] + puts([5, 6, 7])
        refused = [1, TOP + 1, 4, 1, 4294967295, 4, 1, 6, 4, 2, TOP + 1, 4, 2, 4294967295, 4, 2, 8, 4]
        self.assertEqual(answers_after(calls, refused), [-22, 3, -22, 3, -17, 3, -22, 3, -22, 3, -2, 3])

    def test_after_refusals_of_the_empty_set(self):
        self.assertEqual(single([0, 2, 8, 4, 1, TOP + 1, 4, 5, 0, 4]), [0, -2, 0, -22, 0, -2, 0])

    def test_full_set(self):
        calls = [0] + puts(FULL_SET)
        asked = [4, 1, 1, 4, 1, FULL_SET[0], 4, 1, TOP + 1, 4, 2, 1, 4, 2, FULL_SET[0], 4, 1, 1, 4, 1, 2, 4]
        self.assertEqual(answers_after(calls, asked),
                         [4096, -28, 4096, -17, 4096, -22, 4096, -2, 4096, 0, 4095, 0, 4096, -28, 4096])

    def test_every_count_up_and_down(self):
        calls = [0]
        for x in FULL_SET[:2400]:
            calls += [1, x, 4]
        for x in FULL_SET[:2400]:
            calls += [2, x, 4]
        self.assertEqual(single(calls)[2::2], list(range(1, 2401)) + list(range(2399, -1, -1)))

    def test_every_count_to_the_full_set(self):
        calls = [0]
        for x in FULL_SET:
            calls += [1, x, 4]
        self.assertEqual(single(calls)[2::2], list(range(1, 4097)))

    def test_after_a_second_start(self):
        self.assertEqual(answers_after([0] + puts([5, 6]), [4, 0, 4, 1, 6, 4]), [2, 0, 0, 0, 1])
        self.assertEqual(answers_after([0] + puts(FULL_SET), [4, 0, 4]), [4096, 0, 0])


class Next(unittest.TestCase):

    def test_x_itself(self):
        self.assertEqual(answers_after([0] + puts([5, 900, 70000]), seeks([5, 900, 70000])), [5, 900, 70000])

    def test_the_least_above(self):
        calls = [0] + puts([70000, 5, 900])
        self.assertEqual(answers_after(calls, seeks([0, 4, 6, 899, 901, 69999])), [5, 5, 900, 900, 70000, 70000])

    def test_all_are_below(self):
        self.assertEqual(answers_after([0] + puts([5, 900]), seeks([901, 902, 70000, TOP])), [-2] * 4)

    def test_empty_set(self):
        self.assertEqual(answers_after([0], seeks([0, 1, 900, TOP])), [-2] * 4)
        self.assertEqual(answers_after([0] + puts([5, 6]) + drops([6, 5]), seeks([0, 5, TOP])), [-2] * 3)
        self.assertEqual(answers_after([0] + puts([5, 6]) + [0], seeks([0, 5, TOP])), [-2] * 3)

    def test_edges_of_x(self):
        asked = seeks([0, 1, TOP - 1, TOP])
        self.assertEqual(answers_after([0] + puts([0, TOP]), asked), [0, TOP, TOP, TOP])
        self.assertEqual(answers_after([0] + puts([0]), asked), [0, -2, -2, -2])
        self.assertEqual(answers_after([0] + puts([TOP]), asked), [TOP] * 4)
        self.assertEqual(answers_after([0] + puts([TOP - 1]), asked), [TOP - 1, TOP - 1, TOP - 1, -2])

    def test_above(self):
        for calls in ([0], [0] + puts([0, 1, TOP]), [0] + puts(FULL_SET)):
            self.assertEqual(answers_after(calls, seeks(ABOVE)), [-22] * len(ABOVE))

    def test_far_apart(self):
        asked = seeks([0, 1, 2 ** 23 - 1, 2 ** 23, 2 ** 23 + 1, TOP - 1, TOP])
        self.assertEqual(answers_after([0] + puts([0, TOP]), asked), [0] + [TOP] * 6)

    def test_across_the_middle_of_every_part(self):
        for bit in range(24):
            middle = 2 ** bit
            asked = seeks([0, middle - 1, middle, middle + 1])
            self.assertEqual(answers_after([0] + puts([middle]), asked), [middle, middle, middle, -2])
            below = answers_after([0] + puts([middle - 1, TOP]), asked)
            self.assertEqual(below, [middle - 1, middle - 1, TOP, TOP])

    def test_close_together(self):
        numbers = list(range(1000, 1040)) + [1041, 1042, 1045]
        asked = seeks(range(998, 1048))
        expected = [1000, 1000] + numbers[:40] + [1041, 1041, 1042, 1045, 1045, 1045, -2, -2]
        self.assertEqual(answers_after([0] + puts(numbers), asked), expected)

    def test_after_drops(self):
        calls = [0] + puts([5, 6, 900]) + drops([5])
        self.assertEqual(answers_after(calls, seeks([0, 5])), [6, 6])
        self.assertEqual(answers_after(calls + drops([6]), seeks([0, 5, 6])), [900] * 3)
        self.assertEqual(answers_after(calls + drops([900]), seeks([6, 7, 900])), [6, -2, -2])

    def test_after_refusals(self):
        calls = [0] + puts([5, 5, TOP + 1]) + drops([4, TOP + 1])
        self.assertEqual(answers_after(calls, seeks([0, 5, 6])), [5, 5, -2])

    def test_full_sets_walked_through(self):
        chance = random.Random(21)
        for numbers in (FULL_SET, list(range(4096)), list(range(TOP - 4095, TOP + 1)), list(range(1, 8193, 2)),
                        list(range(2048)) + list(range(TOP - 2047, TOP + 1)),
                        [x // 65 * 250000 + x % 65 for x in range(4096)], chance.sample(range(TOP + 1), 4096)):
            row = sorted(numbers)
            self.assertEqual(len(set(row)), 4096)
            # From just behind each number, and from 0: what is answered is the whole set in order.
            starts = [0] + [x + 1 for x in row if x < TOP]
            expected = (row + [-2])[:len(starts)]
            self.assertEqual(single([0] + puts(numbers) + [1, 70001] + seeks(starts))[4098:], expected)

    def test_full_set_from_each_of_its_numbers(self):
        self.assertEqual(single([0] + puts(FULL_SET) + seeks(FULL_SET))[4097:], FULL_SET)


class NothingIsChanged(unittest.TestCase):

    def test_asking_changes_no_later_answer(self):
        asked = asks([0, 5, 6, TOP, TOP + 1, 4294967295]) + [4] + seeks([0, 5, 6, TOP, TOP + 1, 4294967295])
        then = [4] + asks([0, 5, 6, 900, TOP]) + seeks([0, 6, 901]) + drops([0, 5, 6, 900, TOP]) + [4]
        for numbers in ([], [5], [5, 900], [0, 5, 900, TOP]):
            calls = [0] + puts(numbers)
            self.assertEqual(answers_after(calls + asked * 3, then), answers_after(calls, then))

    def test_asking_the_full_set_changes_no_later_answer(self):
        asked = asks([1, FULL_SET[5], TOP + 1]) + [4] + seeks([1, FULL_SET[5], TOP, TOP + 1])
        calls = [0] + puts(FULL_SET) + asked * 3
        self.assertEqual(answers_after(calls, [4, 1, 1] + drops([1] + FULL_SET) + [4]),
                         [4096, -28, -2] + [0] * 4097)


if __name__ == "__main__":
    unittest.main()
