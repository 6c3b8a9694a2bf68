"""Rigs as texts: reading and writing them."""

from slackrods.errors import NotationError, TooGreat
from slackrods.rigs import GREATEST_ROD, GREATEST_TIMES, rod

LONGEST_TEXT = 400
MOST_DIGITS = 3
DEEPEST = 10


class Reader:
    """Reads a text from left to right, and keeps the steps that put its rig together.

    The steps are pairs (sign, number) in Python's order, each one behind those
    that make what it joins.
    """

    def __init__(self, text):
        self._text = text
        self._at = 0
        self._depth = 0
        self.steps = []

    def _char(self):
        """Return the character that is read next, nothing at the end of the text."""
        return self._text[self._at:self._at + 1]

    def _char_behind_spaces(self):
        """Pass over spaces and return the character that is read next."""
        while self._char() == " ":
            self._at += 1
        return self._char()

    def _pass_over(self, word):
        """Pass over a word that must stand here."""
        for letter in word:
            if self._char() != letter:
                raise NotationError(self._at)
            self._at += 1

    def _go_deeper(self, sign):
        """Pass over a bracket or a leading sign."""
        if self._depth == DEEPEST:
            raise NotationError(self._at)
        self._depth += 1
        self._pass_over(sign)

    def _number(self):
        """Pass over a number and return it."""
        start = self._at
        if not "0" <= self._char() <= "9":
            raise NotationError(start)
        self._at += 1
        if self._text[start] != "0":
            while self._at < start + MOST_DIGITS and "0" <= self._char() <= "9":
                self._at += 1
        return int(self._text[start:self._at])

    def read(self):
        """Read the whole text."""
        self._read_chain()
        if self._char_behind_spaces() != "":
            raise NotationError(self._at)

    def _read_chain(self):
        """Read rigs joined by `>>`."""
        self._read_sum()
        while self._char_behind_spaces() == ">":
            self._pass_over(">>")
            self._read_sum()
            self.steps.append((">>", 0))

    def _read_sum(self):
        """Read rigs joined by `+` and `-`."""
        self._read_signed()
        while self._char_behind_spaces() in ("+", "-"):
            sign = self._char()
            self._pass_over(sign)
            self._read_signed()
            self.steps.append((sign, 0))

    def _read_signed(self):
        """Read a rig with leading signs or without."""
        if self._char_behind_spaces() != "-":
            self._read_product()
            return
        self._go_deeper("-")
        self._read_signed()
        self._depth -= 1
        self.steps.append(("negative", 0))

    def _read_product(self):
        """Read a rod or a rig in brackets, and the numbers behind it."""
        self._read_single()
        while self._char_behind_spaces() == "*":
            self._pass_over("*")
            if self._char_behind_spaces() == "-":
                self._pass_over("-")
                self.steps.append(("*", -self._number()))
            else:
                self.steps.append(("*", self._number()))

    def _read_single(self):
        """Read a rod or a rig in brackets."""
        if self._char_behind_spaces() == "(":
            self._go_deeper("(")
            self._read_chain()
            self._depth -= 1
        else:
            self._pass_over("rod")
            self._char_behind_spaces()
            self._pass_over("(")
            self._char_behind_spaces()
            self.steps.append(("rod", self._number()))
        self._char_behind_spaces()
        self._pass_over(")")


def _joined(sign, one, other):
    """Return the rig of two that are joined by a sign."""
    if sign == "+":
        return one + other
    if sign == "-":
        return one - other
    return one >> other


def _put_together(steps):
    """Return the rig that steps in Python's order make."""
    rigs = []
    for sign, number in steps:
        if sign == "rod":
            rigs.append(rod(number))
        elif sign == "*":
            rigs.append(rigs.pop() * number)
        elif sign == "negative":
            rigs.append(-rigs.pop())
        else:
            other = rigs.pop()
            rigs.append(_joined(sign, rigs.pop(), other))
    return rigs[0]


def parse(text):
    """Return the rig of a text."""
    if not isinstance(text, str):
        raise NotationError(0)
    reader = Reader(text[:LONGEST_TEXT])
    reader.read()
    if len(text) > LONGEST_TEXT:
        raise NotationError(LONGEST_TEXT)
    return _put_together(reader.steps)


def _text_of_arm(slack, arm):
    """Return the text of one arm without its sign."""
    if slack > GREATEST_ROD or abs(arm) > GREATEST_TIMES:
        raise TooGreat("a text has slacks up to 99, and arms from -99 to 99")
    return f"rod({slack})" if abs(arm) == 1 else f"rod({slack}) * {abs(arm)}"


def text_of(rig):
    """Return the plain text of a rig."""
    if len(rig) == 0:
        return "rod(0) * 0"
    text = ""
    for slack, arm in rig.arms:
        if text == "":
            sign = "-" if arm < 0 else ""
        else:
            sign = " - " if arm < 0 else " + "
        text = text + sign + _text_of_arm(slack, arm)
    if len(text) > LONGEST_TEXT:
        raise TooGreat("a text has at most 400 characters")
    return text
