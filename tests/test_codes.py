"""Tests of [17]: rigs as lists of numbers."""

import unittest

from slackrods.codes import decode, encode
from slackrods.errors import DecodeError
from slackrods.rigs import Rig, rig_of, rod
from tests.samples import WRONG_KINDS, generator, random_chain

FAR = 1000000


def checksum(numbers):
    """The checksum as [17] tells it."""
    check = 7
    for number in numbers:
        check = (3 * check + number) % 253
    return check


def numbers_of(arms):
    """The numbers of arms as [17] tells them."""
    numbers = [82, len(arms)]
    for slack, arm in arms:
        size = abs(arm)
        numbers += [slack // 256, slack % 256, int(arm < 0), size // 256 ** 2, size // 256 % 256, size % 256]
    return numbers + [checksum(numbers)]


def far_rod(slack):
    """A rig that does what a rod with a slack from 0 to 999 does."""
    rig = rod(0)  # which does what its driver does
    while slack > 0:
        rig = rig >> rod(min(slack, 99))
        slack -= min(slack, 99)
    return rig


def with_checksum(numbers):
    """The numbers with the right checksum in place of the last one."""
    return numbers[:-1] + [checksum(numbers[:-1])]


def first_wrong_offset(numbers):
    """The offset that [17] tells, found by what could stand at each one; None for the numbers of a rig."""
    at = 0

    def standing(low, high):
        nonlocal at
        if at < len(numbers) and type(numbers[at]) is int and low <= numbers[at] <= high:
            at += 1
            return numbers[at - 1]
        raise LookupError

    try:
        standing(82, 82)
        before = -1
        for _ in range(standing(0, 60)):
            quotients = [slack // 256 for slack in range(before + 1, 1000)]
            quotient = standing(min(quotients, default=9), max(quotients, default=-9))
            rests = [slack % 256 for slack in range(before + 1, 1000) if slack // 256 == quotient]
            before = 256 * quotient + standing(min(rests), max(rests))
            standing(0, 1)
            size = 256 ** 2 * standing(0, 255) + 256 * standing(0, 255) + standing(0, 255)
            if not 1 <= size <= FAR:
                at -= 3
                raise LookupError
        standing(checksum(numbers[:at]), checksum(numbers[:at]))
    except LookupError:
        return at
    return at if at < len(numbers) else None


class CodeTest(unittest.TestCase):
    def check_code(self, rig, numbers):
        with self.subTest(arms=rig.arms):
            self.assertEqual(encode(rig), numbers)
            self.assertIsInstance(decode(numbers), Rig)
            self.assertEqual(decode(numbers).arms, rig.arms)

    def assert_wrong(self, numbers, offset):
        with self.subTest(numbers=numbers):
            with self.assertRaises(DecodeError) as caught:
                decode(numbers)
            self.assertEqual(caught.exception.offset, offset)

    def check_reading(self, numbers):
        offset = first_wrong_offset(numbers)
        if offset is None:
            self.assertEqual(encode(decode(numbers)), numbers)
        else:
            self.assert_wrong(numbers, offset)
        return offset


class EncodeTest(CodeTest):
    def test_example(self):
        self.check_code(rod(5), [82, 1, 0, 5, 0, 0, 0, 1, 214])

    def test_no_arms(self):
        self.check_code(rod(5) - rod(5), [82, 0, checksum([82, 0])])
        self.assertEqual(checksum([82, 0]), 56)

    def test_slacks(self):
        for slack, pair in ((0, [0, 0]), (99, [0, 99]), (255, [0, 255]), (256, [1, 0]), (511, [1, 255]), (512, [2, 0]),
                            (999, [3, 231])):
            self.check_code(far_rod(slack), with_checksum([82, 1] + pair + [0, 0, 0, 1, 0]))

    def test_arms(self):
        for size, three in ((1, [0, 0, 1]), (255, [0, 0, 255]), (256, [0, 1, 0]), (65535, [0, 255, 255]),
                            (65536, [1, 0, 0]), (FAR, [15, 66, 64])):
            self.check_code(rod(3) >> rig_of([size]), with_checksum([82, 1, 0, 3, 0] + three + [0]))
            self.check_code(rod(3) >> rig_of([-size]), with_checksum([82, 1, 0, 3, 1] + three + [0]))

    def test_60_arms(self):
        rig = rig_of([slack ** 3 for slack in range(1, 61)])
        self.assertEqual(len(rig), 60)
        self.check_code(rig, numbers_of(rig.arms))

    def test_random_rigs(self):
        chance = generator(57)
        for _ in range(200):
            rig, _ = random_chain(chance, chance.randint(1, 3))
            self.check_code(rig, numbers_of(rig.arms))
        for _ in range(200):
            rig = rig_of([chance.randint(-99999, 99999) for _ in range(chance.randint(1, 60))])
            rig = far_rod(chance.choice((0, 99, 300, 900))) >> rig
            self.check_code(rig, numbers_of(rig.arms))

    def test_lists_are_free(self):
        rig = rod(5)
        encode(rig).clear()
        numbers = encode(rig)
        again = decode(numbers)
        numbers.clear()
        self.assertEqual([encode(rig), again.arms], [[82, 1, 0, 5, 0, 0, 0, 1, 214], ((5, 1),)])


class DecodeTest(CodeTest):
    def samples(self, seed, many):
        chance = generator(seed)
        for _ in range(many):
            rig = rig_of([chance.randint(-9, 9) * 10 ** chance.randint(0, 4) for _ in range(chance.randint(1, 4))])
            yield chance, encode(far_rod(chance.choice((0, 255, 256, 300, 900, 996))) >> rig)

    def test_cut_at_each_place(self):
        for _, numbers in self.samples(58, 40):
            for length in range(len(numbers)):
                self.assert_wrong(numbers[:length], length)

    def test_one_changed_number(self):
        rigs = 0
        for chance, numbers in self.samples(59, 300):
            at = chance.randrange(len(numbers))
            for number in (numbers[at] + 1, numbers[at] - 1, 0, 1, 2, 3, 4, 82, 255, 256, -1, chance.randint(0, 255)):
                changed = numbers[:at] + [number] + numbers[at + 1:]
                self.check_reading(changed)
                rigs += self.check_reading(with_checksum(changed) if at < len(numbers) - 1 else changed) is None
        self.assertGreater(rigs, 200)

    def test_one_number_more(self):
        for chance, numbers in self.samples(60, 60):
            for number in (0, 255, numbers[-1], -1, 256, None, True):
                self.assert_wrong(numbers + [number], len(numbers))
                at = chance.randrange(len(numbers))
                self.check_reading(numbers[:at] + [number] + numbers[at:])
            self.assert_wrong(numbers + numbers, len(numbers))

    def test_what_is_no_number(self):
        numbers = encode(rod(1) * 3 - far_rod(300))
        for at in range(len(numbers)):
            for wrong in WRONG_KINDS + (-1, 256, 10 ** 30):
                self.assert_wrong(numbers[:at] + [wrong] + numbers[at + 1:], at)
        # True would be the right number to Python.
        self.assert_wrong([82, True, 0, 5, 0, 0, 0, 1, 214], 1)
        self.assert_wrong([82, 1, False, 5, 0, 0, 0, 1, 214], 2)
        self.assert_wrong([82, 1, 0, 5, False, 0, 0, 1, 214], 4)
        self.assert_wrong([82, 1, 0, 5, 0, 0, 0, True, 214], 7)

    def test_beginning(self):
        self.assert_wrong([], 0)
        self.assert_wrong([81, 1], 0)
        self.assert_wrong([82], 1)
        self.assert_wrong([82, 61], 1)
        self.assert_wrong([82, 61] + [0] * 999, 1)
        self.assert_wrong([82, 60], 2)
        self.assert_wrong([82, 0], 2)
        self.assert_wrong([82, 0, 55], 2)
        self.assert_wrong([82, 0, 56, 0], 3)
        self.assertEqual(decode([82, 0, 56]).arms, ())

    def test_slacks_not_greater_than_the_one_before(self):
        one = [82, 2, 1, 44, 0, 0, 0, 1]
        self.assert_wrong(one + [0], 8)
        self.assert_wrong(one + [0, 255, 0, 0, 0, 1], 8)
        self.assert_wrong(one + [1, 0, 0, 0, 0, 1], 9)
        self.assert_wrong(one + [1, 44, 0, 0, 0, 1], 9)
        self.assertEqual(decode(with_checksum(one + [1, 45, 0, 0, 0, 1, 0])).arms, ((300, 1), (301, 1)))
        self.assertEqual(decode(with_checksum(one + [2, 0, 0, 0, 0, 1, 0])).arms, ((300, 1), (512, 1)))

    def test_behind_the_last_slack_of_a_quotient(self):
        one = [82, 2, 0, 255, 0, 0, 0, 1]
        self.assert_wrong(one + [0, 255, 0, 0, 0, 1], 8)
        self.assertEqual(decode(with_checksum(one + [1, 0, 0, 0, 0, 1, 0])).arms, ((255, 1), (256, 1)))
        one = [82, 2, 0, 254, 0, 0, 0, 1]
        self.assert_wrong(one + [0, 254, 0, 0, 0, 1], 9)
        self.assertEqual(decode(with_checksum(one + [0, 255, 0, 0, 0, 1, 0])).arms, ((254, 1), (255, 1)))

    def test_slacks_above_999(self):
        self.assert_wrong([82, 1, 4, 0, 0, 0, 0, 1, 0], 2)
        self.assert_wrong([82, 1, 255, 0, 0, 0, 0, 1, 0], 2)
        self.assert_wrong([82, 1, 3, 232, 0, 0, 0, 1, 0], 3)
        self.assert_wrong([82, 1, 3, 255], 3)
        self.assertEqual(decode(with_checksum([82, 1, 3, 231, 0, 0, 0, 1, 0])).arms, ((999, 1),))

    def test_behind_slack_999(self):
        one = [82, 2, 3, 231, 0, 0, 0, 1]
        for quotient in (0, 2, 3, 4, 255):
            self.assert_wrong(one + [quotient, 255, 0, 0, 0, 1, 0], 8)
        one = [82, 2, 3, 230, 0, 0, 0, 1]
        self.assert_wrong(one + [3, 230, 0, 0, 0, 1, 0], 9)
        self.assert_wrong(one + [3, 232, 0, 0, 0, 1, 0], 9)
        self.assert_wrong(one + [2, 232, 0, 0, 0, 1, 0], 8)
        self.assertEqual(decode(with_checksum(one + [3, 231, 0, 0, 0, 1, 0])).arms, ((998, 1), (999, 1)))

    def test_signs(self):
        self.assert_wrong([82, 1, 0, 5, 2, 0, 0, 1, 0], 4)
        self.assert_wrong([82, 1, 0, 5, 255], 4)

    def test_sizes(self):
        self.assert_wrong([82, 1, 0, 5, 0, 0, 0, 0, 0], 5)
        self.assert_wrong([82, 1, 0, 5, 1, 0, 0, 0, 0], 5)
        self.assert_wrong([82, 1, 0, 5, 0, 15, 66, 65, 0], 5)
        self.assert_wrong([82, 1, 0, 5, 0, 16, 0, 0, 0], 5)
        self.assert_wrong([82, 1, 0, 5, 0, 255, 255, 255], 5)
        # All three are read before the size is looked at.
        self.assert_wrong([82, 1, 0, 5, 0, 255], 6)
        self.assert_wrong([82, 1, 0, 5, 0, 255, 255], 7)
        self.assert_wrong([82, 1, 0, 5, 0, 255, 256, 0], 6)
        self.assert_wrong([82, 1, 0, 5, 0, 0, 0, None], 7)

    def test_checksum(self):
        numbers = encode(rod(5))
        for wrong in list(range(214)) + list(range(215, 256)):
            self.assert_wrong(numbers[:-1] + [wrong], 8)
            self.assert_wrong(numbers[:-1] + [wrong, 0], 8)
        self.assert_wrong(numbers + [0], 9)

    def test_what_is_no_list(self):
        for wrong in (None, True, False, 0, 82, "", "82", (), (82, 0, 56), tuple(encode(rod(5)))):
            self.assert_wrong(wrong, 0)


if __name__ == "__main__":
    unittest.main()
