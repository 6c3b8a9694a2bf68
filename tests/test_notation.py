"""Tests of [16]: rigs as texts."""

import unittest

from slackrods.errors import InvalidSlack, InvalidTimes, NotationError, NotForward, RodError, TooGreat
from slackrods.notation import parse, text_of
from slackrods.rigs import Rig, rig_of, rod
from tests.samples import generator, random_chain
from tests.texts import is_rig, random_text, wrong_index

SIGNS = list("rod()+-*> 0123456789") + ["1", "rod", "(", ")", "-", "x", "<", "/", "\t", "\n", "_", ",", "\u0661"]


def python_reading(text):
    """What Python makes of a text: the arms of a rig, or the class of the error."""
    try:
        return eval(text, {"rod": rod}).arms
    except RodError as error:
        return type(error)


def reading(text):
    """What parse makes of a text: the arms of a rig, or the class of the error."""
    try:
        return parse(text).arms
    except RodError as error:
        return type(error)


class NotationTest(unittest.TestCase):
    def assert_wrong(self, text, index):
        with self.subTest(text=text):
            with self.assertRaises(NotationError) as caught:
                parse(text)
            self.assertEqual(caught.exception.index, index)

    def assert_reading(self, text, rig):
        with self.subTest(text=text):
            self.assertEqual(parse(text).arms, rig.arms)


class ParseTest(NotationTest):
    def test_examples(self):
        self.assertEqual(parse("rod(1) * 2 + rod(2) >> rod(3)").arms, ((2, 2), (3, 1)))
        self.assert_wrong("rod(5) + ro", 11)

    def test_one_rod(self):
        for slack in (0, 1, 9, 10, 99):
            self.assert_reading(f"rod({slack})", rod(slack))
            self.assert_reading(f"  rod (  {slack} ) ", rod(slack))
        self.assertIsInstance(parse("rod(1)"), Rig)

    def test_how_strongly_signs_bind(self):
        a, b, c = rod(1), rod(2), rod(4)
        self.assert_reading("rod(1) + rod(2) * 3", a + b * 3)
        self.assert_reading("(rod(1) + rod(2)) * 3", (a + b) * 3)
        self.assert_reading("rod(1) - rod(2) - rod(4)", a - b - c)
        self.assert_reading("rod(1) - (rod(2) - rod(4))", a - b + c)
        self.assert_reading("rod(1) - rod(2) + rod(4)", a - b + c)
        self.assert_reading("rod(1) - (rod(2) + rod(4))", a - b - c)
        self.assert_reading("rod(1) + rod(2) >> rod(4)", (a + b) >> c)
        self.assert_reading("rod(1) + (rod(2) >> rod(4))", a + (b >> c))
        self.assert_reading("rod(1) >> rod(2) + rod(4)", a >> (b + c))
        self.assert_reading("(rod(1) >> rod(2)) + rod(4)", (a >> b) + c)
        self.assert_reading("rod(1) >> rod(2) - rod(4) * 2", a >> (b - c * 2))
        self.assert_reading("rod(1) * 2 >> rod(2) * 3 >> rod(4)", ((a * 2) >> (b * 3)) >> c)
        self.assert_reading("rod(1) * 2 * 3 * -4", a * -24)

    def test_left_one_binds_stronger(self):
        # The second rig goes back and forth, so it cannot drive the third one.
        with self.assertRaises(NotForward):
            parse("rod(0) >> (-rod(0) >> rod(1))")
        with self.assertRaises(NotForward):
            parse("rod(0) >> -rod(0) >> rod(1)")
        self.assertEqual(reading("rod(0) * 0 >> (-rod(0) >> rod(1))"), NotForward)
        self.assertEqual(reading("rod(0) * 0 >> -rod(0) >> rod(1)"), ())

    def test_leading_signs(self):
        a, b = rod(1), rod(2)
        self.assert_reading("-rod(1)", -a)
        self.assert_reading(" - rod(1)", -a)
        self.assert_reading("--rod(1)", a)
        self.assert_reading("- - -rod(1)", -a)
        self.assert_reading("-rod(1) + rod(2)", b - a)
        self.assert_reading("-(rod(1) + rod(2))", -a - b)
        self.assert_reading("-rod(1) * 2", a * -2)
        self.assert_reading("-rod(1) * -2", a * 2)
        self.assert_reading("rod(1) + -rod(2)", a - b)
        self.assert_reading("rod(1) - -rod(2)", a + b)
        self.assert_reading("rod(1)--rod(2)", a + b)
        self.assert_reading("rod(1) >> -rod(2)", a >> -b)
        self.assert_reading("(-rod(1))", -a)
        self.assert_reading("rod(1) + --rod(2) * 3", a + b * 3)
        self.assertEqual(reading("-rod(1) >> rod(2)"), NotForward)

    def test_numbers_behind_times(self):
        for times in (0, 1, 9, 10, 99):
            for text in (f"rod(3)*{times}", f"rod(3) * {times}", f"rod(3)  *   {times} "):
                self.assert_reading(text, rod(3) * times)
            for text in (f"rod(3)*-{times}", f"rod(3) * -{times}", f"rod(3) *   -{times} "):
                self.assert_reading(text, rod(3) * -times)
        self.assert_wrong("rod(1) * - 2", 10)
        self.assert_wrong("rod(1) * --2", 10)
        self.assert_wrong("rod(1) * +2", 9)
        self.assert_wrong("rod(1) * (2)", 9)
        self.assert_wrong("rod(1) * rod(2)", 9)
        self.assert_wrong("rod(1) * -rod(2)", 10)
        self.assert_wrong("2 * rod(1)", 0)
        self.assert_wrong("rod(1) * 2 3", 11)

    def test_spaces(self):
        self.assert_reading("  rod  (  1  )  *  2  +  -  (  rod  (  2  )  )  >>  rod  (  3  )  ",
                            (rod(1) * 2 - rod(2)) >> rod(3))
        self.assert_wrong("r od(1)", 1)
        self.assert_wrong("ro d(1)", 2)
        self.assert_wrong("rod(1 2)", 6)
        self.assert_wrong("rod(1) > > rod(2)", 8)
        self.assert_wrong("rod(1)\n", 6)
        self.assert_wrong("\trod(1)", 0)
        self.assert_wrong("", 0)
        self.assert_wrong("   ", 3)

    def test_numbers(self):
        self.assert_wrong("rod(1000)", 7)
        self.assert_wrong("rod(00)", 5)
        self.assert_wrong("rod(07)", 5)
        self.assert_wrong("rod(0123)", 5)
        self.assert_wrong("rod(-1)", 4)
        self.assert_wrong("rod()", 4)
        self.assert_wrong("rod((1))", 4)
        self.assert_wrong("rod(1.5)", 5)
        self.assert_wrong("rod(1_0)", 5)
        self.assert_wrong("rod(\u0661)", 4)
        self.assert_wrong("rod(1\u0661)", 5)
        self.assert_wrong("rod(1) * 1000", 12)
        self.assert_wrong("rod(1) * -1000", 13)
        self.assert_wrong("rod(1) * 00", 10)
        self.assert_wrong("rod(1) * 05", 10)
        self.assert_wrong("rod(1) * -05", 11)

    def test_forms(self):
        self.assert_wrong("Rod(1)", 0)
        self.assert_wrong("rods(1)", 3)
        self.assert_wrong("rod 1", 4)
        self.assert_wrong("rod", 3)
        self.assert_wrong("+rod(1)", 0)
        self.assert_wrong("rod(1) + +rod(2)", 9)
        self.assert_wrong("rod(1) rod(2)", 7)
        self.assert_wrong("rod(1)(rod(2))", 6)
        self.assert_wrong("(rod)(1)", 4)
        self.assert_wrong("()", 1)
        self.assert_wrong("(rod(1)", 7)
        self.assert_wrong("rod(1))", 6)
        self.assert_wrong("rod(1", 5)
        self.assert_wrong("rod(1) >", 8)
        self.assert_wrong("rod(1) >>", 9)
        self.assert_wrong("rod(1) >>> rod(1)", 9)
        self.assert_wrong("rod(1) ** 2", 8)
        self.assert_wrong(">> rod(1)", 0)
        self.assert_wrong("* 3", 0)
        self.assert_wrong("rod(1) << rod(1)", 7)
        self.assert_wrong("rod(1),", 6)

    def test_what_is_no_string(self):
        for text in (None, True, False, 5, [], ["rod(1)"], (), ("rod(1)",)):
            self.assert_wrong(text, 0)

    def test_against_python(self):
        chance = generator(48)
        kinds = {}
        for _ in range(1500):
            text = random_text(chance, 9)
            with self.subTest(text=text):
                expected = python_reading(text)
                self.assertEqual(reading(text), expected)
                kind = tuple if isinstance(expected, tuple) else expected
                kinds[kind] = kinds.get(kind, 0) + 1
        self.assertGreater(kinds[tuple], 500)
        self.assertGreater(kinds[NotForward], 100)


class DepthTest(NotationTest):
    def test_brackets(self):
        self.assert_reading("(" * 10 + "rod(2)" + ")" * 10, rod(2))
        self.assert_wrong("(" * 11 + "rod(2)" + ")" * 11, 10)
        self.assert_wrong("(" * 400, 10)
        self.assert_wrong("(" * 10, 10)

    def test_leading_signs(self):
        self.assert_reading("-" * 10 + "rod(2)", rod(2))
        self.assert_wrong("-" * 11 + "rod(2)", 10)
        self.assert_wrong("- " * 11 + "rod(2)", 20)

    def test_both_together(self):
        self.assert_reading("-(" * 5 + "rod(2)" + ")" * 5, -rod(2))
        self.assert_wrong("-(" * 5 + "-rod(2)" + ")" * 5, 10)
        self.assert_wrong("-(" * 5 + "(rod(2))" + ")" * 5, 10)
        self.assert_reading("(" * 9 + "rod(2) - -rod(1)" + ")" * 9, rod(2) + rod(1))
        self.assert_wrong("(" * 9 + "rod(2) - --rod(1)" + ")" * 9, 19)
        self.assert_wrong("(" * 10 + "rod(2) - -rod(1)" + ")" * 10, 19)

    def test_closed_ones_leave_the_same_room(self):
        for before in ("(rod(1)) + ", "-rod(1) + ", "((rod(1))) >> ", "(rod(1)) * 2 - ", "-(-(rod(1))) + "):
            self.assert_wrong(before + "(" * 11 + "rod(2)" + ")" * 11, len(before) + 10)
            self.assert_wrong(before + "-" * 11 + "rod(2)", len(before) + 10)
            self.assertNotEqual(reading(before + "(" * 10 + "rod(2)" + ")" * 10), NotationError)
            self.assertNotEqual(reading(before + "-" * 10 + "rod(2)"), NotationError)
        self.assert_wrong("(" * 9 + "(rod(1)) + ((rod(2)", 21)
        self.assert_wrong("(" * 9 + "(rod(1)) + -(rod(2)", 21)

    def test_what_does_not_count(self):
        # Neither the sign between two rigs nor that of a number, nor what is closed.
        self.assert_reading("(" * 10 + "rod(2) - rod(1) * -3" + ")" * 10, rod(2) + rod(1) * 3)
        self.assert_reading(" + ".join(["-(rod(1))"] * 20), rod(1) * -20)
        self.assert_reading("-" * 10 + "rod(2)" + " - (rod(2))", rod(2) * 0)
        self.assert_reading("-" * 10 + "rod(2) * -2", rod(2) * -2)


class LengthTest(NotationTest):
    def test_400_characters(self):
        self.assert_reading("rod(1)" + " " * 394, rod(1))
        self.assert_reading(" " * 394 + "rod(1)", rod(1))
        text = "rod(1)" + " + rod(2)" * 43
        self.assert_reading(text + " " * (400 - len(text)), rod(1) + rod(2) * 43)

    def test_401_characters(self):
        self.assert_wrong("rod(1)" + " " * 395, 400)
        self.assert_wrong(" " * 395 + "rod(1)", 400)
        self.assert_wrong("rod(1)" + " " * 394 + "x", 400)
        self.assert_wrong(" " * 401, 400)
        self.assert_wrong("rod(1) + " * 90, 400)
        self.assert_wrong("rod(1)" + " " * 10 ** 6, 400)
        self.assert_wrong(" " * 396 + "rod(100)", 400)

    def test_wrong_character_before_400(self):
        self.assert_wrong("x" + " " * 400, 0)
        self.assert_wrong(" " * 399 + "x" * 9, 399)
        self.assert_wrong(" " * 300 + "rod(1) rod(2)" + " " * 300, 307)
        self.assert_wrong("rod(1)" + " " * 393 + "x" + " ", 399)

    def test_wrong_character_behind_400(self):
        self.assert_wrong(" " * 400 + "x", 400)
        self.assert_wrong(" " * 500 + "x", 400)

    def test_too_early_end(self):
        self.assert_wrong("rod(1) +" + " " * 392, 400)
        self.assert_wrong("rod(1) +" + " " * 391, 399)

    def test_length_comes_before_what_python_would_find(self):
        self.assert_wrong("rod(100)" + " " * 393, 400)
        self.assertEqual(reading("rod(100)" + " " * 392), InvalidSlack)


class WrongIndexTest(NotationTest):
    def check(self, text):
        index = wrong_index(text)
        if index is None:
            self.assertNotEqual(reading(text), NotationError)
        else:
            self.assert_wrong(text, index)
        return index

    def test_cut_texts(self):
        chance = generator(49)
        for _ in range(60):
            text = random_text(chance, 6)
            for length in range(len(text)):
                index = self.check(text[:length])
                self.assertIn(index, (None, length))

    def test_one_changed_character(self):
        chance = generator(50)
        for _ in range(1200):
            text = random_text(chance, 7)
            at = chance.randrange(len(text))
            self.check(text[:at] + chance.choice(SIGNS) + text[at + 1:])

    def test_one_further_character(self):
        chance = generator(51)
        for _ in range(1200):
            text = random_text(chance, 7)
            at = chance.randrange(len(text) + 1)
            self.check(text[:at] + chance.choice(SIGNS) + text[at:])

    def test_one_character_less(self):
        chance = generator(52)
        for _ in range(600):
            text = random_text(chance, 7)
            at = chance.randrange(len(text))
            self.check(text[:at] + text[at + 1:])

    def test_random_signs(self):
        chance = generator(53)
        right = 0
        for _ in range(3000):
            signs = ["rod(1)", "rod(1)", "(", ")", "-", "+", "*2", "*-3", ">>", " ", "-(", "--(("]
            right += self.check("".join(chance.choice(signs) for _ in range(chance.randint(1, 14)))) is None
        self.assertGreater(right, 40)


class ErrorTest(NotationTest):
    def test_limits(self):
        self.assertEqual(reading("rod(100)"), InvalidSlack)
        self.assertEqual(reading("rod(999)"), InvalidSlack)
        self.assertEqual(reading("rod(1) * 100"), InvalidTimes)
        self.assertEqual(reading("rod(1) * -100"), InvalidTimes)
        self.assertEqual(reading("rod(1) * 99 * 99 * 99 * 99"), TooGreat)
        self.assertEqual(reading("rod(1) - rod(0) >> rod(2)"), NotForward)

    def test_first_one_that_python_comes_upon(self):
        for text in (
            "rod(100) * 100", "rod(1) * 100 + rod(100)", "rod(100) + rod(1) * 100", "rod(1) + rod(100) * 100",
            "-rod(1) >> rod(100)", "-rod(1) >> rod(2) * 100", "(-rod(1) >> rod(2)) + rod(100)",
            "rod(1) * 99 * 99 * 99 * 99 + rod(100)", "rod(100) + rod(1) * 99 * 99 * 99 * 99",
            "rod(1) * 99 * 99 * 99 * 100", "rod(1) * 99 * 99 * 99 * 99 * 100", "-rod(1) * 100", "-rod(100)",
            "-(-rod(0) >> rod(1)) * 100", "rod(1) >> -rod(2) >> rod(100)", "rod(1) - rod(2) * 2 >> rod(3) >> rod(100)",
            "(rod(0) - rod(1) * 2 >> rod(3)) + (rod(0) * 100)", " >> ".join(["rod(9) * 99"] * 4),
            " >> ".join(["rod(99)"] * 11), " >> ".join(["rod(99)"] * 11) + " >> rod(100)",
        ):
            with self.subTest(text=text):
                self.assertTrue(is_rig(text))
                self.assertIsInstance(reading(text), type)
                self.assertEqual(reading(text), python_reading(text))

    def test_form_is_looked_at_first(self):
        self.assert_wrong("rod(100) +", 10)
        self.assert_wrong("rod(1) * 100 )", 13)
        self.assert_wrong("-rod(1) >> rod(2) x", 18)
        self.assert_wrong("rod(1) * 99 * 99 * 99 * 99 * rod(1)", 29)

    def test_random_errors(self):
        chance = generator(54)
        kinds = {}
        for _ in range(2000):
            text = random_text(chance, 7)
            if chance.random() < 0.2:
                text = text.replace("99", "100")
            elif chance.random() < 0.3:
                text = text.replace(")*2", ")*99*99*99*99")
            if len(text) <= 400:
                with self.subTest(text=text):
                    expected = python_reading(text)
                    self.assertEqual(reading(text), expected)
                    kinds[expected if isinstance(expected, type) else tuple] = True
        self.assertLessEqual({tuple, InvalidSlack, InvalidTimes, NotForward, TooGreat}, set(kinds))


class TextTest(NotationTest):
    def test_example(self):
        self.assertEqual(text_of(rod(3) - rod(1) * 4), "-rod(1) * 4 + rod(3)")

    def test_arms(self):
        for rig, text in (
            (rod(0), "rod(0)"), (-rod(0), "-rod(0)"), (rod(99) * 99, "rod(99) * 99"), (rod(7) * -99, "-rod(7) * 99"),
            (rod(1) * 2, "rod(1) * 2"), (rod(5) + rod(1), "rod(1) + rod(5)"), (rod(5) - rod(1), "-rod(1) + rod(5)"),
            (rod(1) - rod(5), "rod(1) - rod(5)"), (rod(1) - rod(5) * 3, "rod(1) - rod(5) * 3"),
            (-rod(1) - rod(5), "-rod(1) - rod(5)"), (rod(2) >> rod(3), "rod(5)"),
            (rod(0) * -2 + rod(4) * 3 - rod(9), "-rod(0) * 2 + rod(4) * 3 - rod(9)"),
        ):
            with self.subTest(text=text):
                self.assertEqual(text_of(rig), text)

    def test_rig_without_arms(self):
        self.assertEqual(text_of(rod(4) - rod(4)), "rod(0) * 0")
        self.assertEqual(len(parse("rod(0) * 0")), 0)

    def test_random_sums(self):
        chance = generator(55)
        for _ in range(300):
            rig = rod(0) * 0
            parts = {}
            for slack in chance.sample(range(100), chance.randint(1, 20)):
                parts[slack] = chance.choice((1, -1, chance.randint(-99, 99)))
                rig = rig + rod(slack) * parts[slack]
            signs = []
            for slack in sorted(slack for slack in parts if parts[slack]):
                sign = "+" if parts[slack] > 0 else "-"
                signs += [sign, f"rod({slack})"] if abs(parts[slack]) == 1 else [
                    sign, f"rod({slack}) * {abs(parts[slack])}"]
            expected = " ".join(signs)
            expected = expected[2:] if expected.startswith("+") else expected.replace("- ", "-", 1)
            with self.subTest(arms=rig.arms):
                self.assertEqual(text_of(rig), expected or "rod(0) * 0")
                self.assertTrue(parse(text_of(rig)) == rig)

    def test_chains_there_and_back(self):
        chance = generator(56)
        for _ in range(200):
            rig, _ = random_chain(chance, chance.randint(1, 3))
            if all(slack <= 99 and -99 <= arm <= 99 for slack, arm in rig.arms):
                self.assertTrue(parse(text_of(rig)) == rig)

    def test_too_great_slacks(self):
        self.assertEqual(text_of(rod(90) >> rod(9)), "rod(99)")
        for rig in (rod(90) >> rod(10), rod(1) + (rod(99) >> rod(1)), rod(99) >> rod(99)):
            self.assertRaises(TooGreat, text_of, rig)

    def test_too_great_arms(self):
        for rig in (rod(1) * 50 * 2, rod(1) * -50 * 2, rod(0) + rod(3) * 99 + rod(3), rod(0) - rod(3) * 99 - rod(3),
                    rod(1) * 99 * 99, rig_of([1000000])):
            self.assertRaises(TooGreat, text_of, rig)

    def sum_of(self, slacks, arm):
        rig = rod(0) * 0
        for slack in slacks:
            rig = rig + rod(slack) * arm
        return rig

    def test_length_of_the_text(self):
        # 27 arms with 12 characters each and 3 between them; an arm of one digit has one less.
        rig = self.sum_of(range(10, 37), 12)
        self.assertRaises(TooGreat, text_of, rig)
        rig = rig - rod(10) * 3
        self.assertRaises(TooGreat, text_of, rig)
        rig = rig - rod(11) * 3
        self.assertEqual(len(text_of(rig)), 400)
        self.assertTrue(parse(text_of(rig)) == rig)
        # A sign ahead of the first one is one character more.
        self.assertRaises(TooGreat, text_of, rig - rod(10) * 18)
        self.assertRaises(TooGreat, text_of, self.sum_of(range(60), 1))


if __name__ == "__main__":
    unittest.main()
