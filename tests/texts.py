"""A second reading of the texts of [16], by Python's own parser, and random texts.

A text is one of a rig if it is one to Python, apart from what the document
rules out. A beginning of a text is one of a rig if some end makes it one.
"""

import ast
import re

NUMBER = r"(?:0|[1-9][0-9]{0,2})"
ROD = re.compile(rf"rod *\( *{NUMBER} *\)")
TIMES = re.compile(rf"\* *-?{NUMBER}(?![0-9])")
ALLOWED = (
    ast.Expression, ast.Name, ast.Load, ast.BinOp, ast.Add, ast.Sub, ast.Mult, ast.RShift, ast.UnaryOp, ast.USub,
    ast.Constant,
)
ENDS = ("", "rod(1)", "od(1)", "d(1)", "(1)", "1)", ")", ">rod(1)", "1")


def deepest(signs):
    """How deep brackets and leading signs go in a text in which `r` is a rod and `m` a factor behind it."""
    open_ones = []
    leading = 0
    behind_rig = False
    most = 0
    for sign in signs:
        if sign == "(":
            open_ones.append(leading)
            leading = 0
            most = max(most, sum(open_ones) + len(open_ones))
        elif sign == ")":
            leading = 0
            if open_ones:
                open_ones.pop()
        elif sign == "-" and not behind_rig:
            leading += 1
            most = max(most, sum(open_ones) + len(open_ones) + leading)
        elif sign == "r":
            leading = 0
        behind_rig = sign in "r)m"
    return most


def is_rig(text):
    """Whether a text of any length is that of a rig."""
    if not re.fullmatch(r"(?:rod|>>|[-+*() 0-9])*", text) or re.search(r"[rm]", text.replace("rod", "")):
        return False
    signs = TIMES.sub("m", ROD.sub("r", text))
    if not re.fullmatch(r"[-+>() rm]*", signs):
        return False
    try:
        tree = ast.parse(signs.replace("r", " r ").replace("m", " *2 ").strip(" "), mode="eval")
    except SyntaxError:
        return False
    if not all(isinstance(node, ALLOWED) for node in ast.walk(tree)):
        return False
    return deepest(signs.replace(" ", "")) <= 10


def begins_rig(text):
    """Whether a rig's text of any length begins so."""
    for end in ENDS:
        whole = text + end
        if is_rig(whole + ")" * max(0, whole.count("(") - whole.count(")"))):
            return True
    return False


def wrong_index(text):
    """The index that parse must tell for a text, None for that of a rig."""
    if len(text) <= 400 and is_rig(text):
        return None
    # Each beginning of such a beginning is one too.
    low, high = 0, min(400, len(text))
    while low < high:
        middle = (low + high) // 2
        if begins_rig(text[:middle + 1]):
            low = middle + 1
        else:
            high = middle
    return low


def random_signs(chance, size):
    """The parts of a random text, between which spaces can stand."""
    if size <= 0 or chance.random() < 0.1:
        return ["rod", "(", str(chance.choice((0, 1, 2, 3, 4, 10, 99))), ")"]
    kind = chance.choice(("+", "-", ">>", ">>", "*", "negative", "brackets"))
    if kind == "*":
        inner = in_brackets(random_signs(chance, size - 1))
        return inner + ["*", str(chance.choice((0, 1, 2, 3, 10, 99, -1, -2, -99)))]
    if kind == "negative":
        return ["-"] + in_brackets(random_signs(chance, size - 1))
    if kind == "brackets":
        return ["("] + random_signs(chance, size - 1) + [")"]
    left = chance.randint(0, size - 1)
    return random_signs(chance, left) + [kind] + random_signs(chance, size - 1 - left)


def in_brackets(signs):
    """The parts in brackets, without them if they are those of one rod."""
    return signs if signs.count("rod") == 1 and len(signs) == 4 else ["("] + signs + [")"]


def joined(chance, signs):
    """The text of parts, with many spaces between them, few or none."""
    most = chance.choice((0, 0, 1, 3))
    text = " " * chance.randint(0, most)
    for sign in signs:
        text += sign + " " * chance.randint(0, most)
    return text


def random_text(chance, size):
    """A random text of at most 400 characters that goes at most ten deep."""
    while True:
        text = joined(chance, random_signs(chance, chance.randint(0, size)))
        if len(text) <= 400 and is_rig(text):
            return text
