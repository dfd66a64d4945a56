"""Grounds, terms and things of many kinds that the tests share."""

import itertools
import re

from goalsmith.errors import SmithError
from goalsmith.grounds import Ground

WORDS = ("no", "not", "and", "or", "so", "all", "some")


def name(x, kind="num"):
    return ("name", x, kind)


def made(f, *parts):
    return ("made", f, parts)


ZERO = made("zero")


def num(many):
    """The number as a data: its signs are one more."""
    data = ZERO
    for _ in range(many):
        data = made("next", data)
    return data


def listed(*data):
    whole = made("nil")
    for one in reversed(data):
        whole = made("cons", one, whole)
    return whole


def wide(signs):
    """A data of the kind tree with so many signs that is not deep (by tip and fork)."""
    if signs <= 2:
        return made("leaf") if signs == 1 else made("tip", made("leaf"))
    if signs == 3:
        return made("tip", wide(2))
    half = (signs - 1) // 2
    return made("fork", wide(half), wide(signs - 1 - half))


def depth_of(thing):
    """How many tuples of a term or a saying stand one within another."""
    inner = thing[2] if thing[0] == "made" else [part for part in thing[1:] if isinstance(part, tuple)]
    return 1 + max([depth_of(part) for part in inner], default=0)


def doubled(many):
    """A data of more than two to the power of so many signs, each tuple of which stands in two places."""
    data = made("leaf")
    for _ in range(many):
        data = made("fork", data, data)
    return data


KINDS = [
    ("thing", []),
    ("spot", []),
    ("num", [("zero", []), ("next", ["num"])]),
    ("list", [("nil", []), ("cons", ["num", "list"])]),
    ("tree", [("leaf", []), ("tip", ["tree"]), ("fork", ["tree", "tree"])]),
]

YA, YB, XA, XB = (name(x) for x in ("ya", "yb", "xa", "xb"))

WORKS = [
    ("love", ["thing", "thing"], "thing", None, []),
    ("home", [], "spot", None, []),
    ("age", ["thing"], "num", None, []),
    ("add", ["num", "num"], "num", 0, [XB, made("next", made("add", YA, XB))]),
    ("twice", ["num"], "num", None, [made("add", XA, XA)]),
    ("one", [], "num", None, [num(1)]),
    ("pick", ["thing", "num", "thing"], "thing", 1, [name("xa", "thing"), name("xc", "thing")]),
    ("len", ["list"], "num", 0, [ZERO, made("next", made("len", name("yb", "list")))]),
    (
        "size",
        ["tree"],
        "num",
        0,
        [
            num(1),
            made("next", made("size", name("ya", "tree"))),
            made("next", made("add", made("size", name("ya", "tree")), made("size", name("yb", "tree")))),
        ],
    ),
    ("first", ["num", "num"], "num", None, [XA]),
]


def ground():
    return Ground(KINDS, WORKS)


GROUND_TEXT = """kind thing
kind spot
kind num: zero; next(num)
kind list: nil; cons(num, list)
kind tree: leaf; tip(tree); fork(tree, tree)
work love(thing, thing) thing
work home spot
work age(thing) num
work add(num, num) num at 0: xb:num; next(add(ya:num, xb:num))
work twice(num) num = add(xa:num, xa:num)
work one num = next(zero)
work pick(thing, num, thing) thing at 1: xa:thing; xc:thing
work len(list) num at 0: zero; next(len(yb:list))
work size(tree) num at 0: next(zero); next(size(ya:tree)); next(add(size(ya:tree), size(yb:tree)))
work first(num, num) num = xa:num
"""


def deep_tuple(deep, inner=()):
    thing = inner
    for _ in range(deep):
        thing = (thing,)
    return thing


class Alike:
    """A thing that says of itself that it is the same as any other."""

    def __eq__(self, other):
        return True

    __hash__ = None


THINGS = [
    None,
    True,
    False,
    0,
    1,
    -1,
    10 ** 5000,
    "",
    "num",
    "zero",
    "name",
    "made",
    "no",
    "\u00e9t\u00e9",
    b"num",
    1.5,
    [],
    ["num"],
    [["zero"]],
    {},
    {"num": []},
    (),
    ("num",),
    ("num", []),
    (("num",), ("zero",)),
    ([],),
    ([], [], []),
    ({}, {}, {}),
    (None, None, None),
    (True, False),
    ("made",),
    ("made", "zero"),
    ("made", [], ()),
    ("made", {}, ()),
    ("made", None, ()),
    ("made", ("zero",), ()),
    ("name", [], []),
    ("name", "x", []),
    ("name", "x", {}),
    ("name", ("x",), "num"),
    ("bound", []),
    ("bound", None),
    ("all", [], ("no",)),
    ("same", [], []),
    ("not", []),
    ("and", None, None),
    object(),
    len,
    deep_tuple(118),
    deep_tuple(118, "num"),
    [deep_tuple(100)],
]


def refused(test, refusal, act, *args):
    """The act is refused with just this error, not with one under or over it."""
    try:
        told = act(*args)
    except SmithError as error:
        test.assertIs(error.__class__, refusal, args)
        return error
    test.fail(f"{act.__name__} told {told!r} instead of {refusal.__name__}, of {args!r}"[:2000])


def changed_texts(text, signs="az:,;.()= \n0A\t"):
    """The text with a sign left out, put in, or exchanged, or two neighbours exchanged, at each place."""
    for at in range(len(text) + 1):
        for sign in signs:
            yield text[:at] + sign + text[at:]
            if at < len(text):
                yield text[:at] + sign + text[at + 1:]
        if at < len(text):
            yield text[:at] + text[at + 1:]
        if at + 1 < len(text):
            yield text[:at] + text[at + 1] + text[at] + text[at + 2:]


# A second reader of term texts, by other means than the program's own.


def is_name_text(text):
    return re.fullmatch("[a-z]{1,8}", text) is not None and text not in WORDS


def split_outside(text, sign):
    """The pieces between these signs that stand in no brackets."""
    pieces, deep, start, at = [], 0, 0, 0
    while at < len(text):
        deep += {"(": 1, ")": -1}.get(text[at], 0)
        if deep == 0 and text.startswith(sign, at):
            pieces.append(text[start:at])
            at += len(sign)
            start = at
        else:
            at += 1
    return pieces + [text[start:]]


def plain_read(text):
    """What a text written like a term says, or None."""
    words = text.split(":")
    if len(words) == 2 and is_name_text(words[0]) and is_name_text(words[1]):
        return ("name", words[0], words[1])
    if is_name_text(text):
        return ("made", text, ())
    head, bracket, rest = text.partition("(")
    if not (is_name_text(head) and bracket and rest.endswith(")")):
        return None
    parts = tuple(plain_read(piece) for piece in split_outside(rest[:-1], ", "))
    return None if None in parts else ("made", head, parts)


def plain_takes(text):
    """What a text like a maker's says, or None."""
    found = re.fullmatch(r"([a-z]+)(?:\(([a-z]+(?:, [a-z]+)*)\))?", text)
    if found is None:
        return None
    takes = found[2].split(", ") if found[2] else []
    return (found[1], takes) if all(is_name_text(word) for word in [found[1]] + takes) else None


def plain_read_ground(text):
    """The two lists that a text like a ground's says, or None."""
    rows = text.split("\n")
    kinds, works = [], []
    for row in rows[:-1]:
        kind = re.fullmatch("kind ([a-z]+)(?:: (.+))?", row)
        work = re.fullmatch(r"work ([a-z]+(?:\([^()]*\))?) ([a-z]+)(?: = (.+)| at ([0-9]): (.+))?", row)
        if kind and not works:
            makers = [plain_takes(piece) for piece in kind[2].split("; ")] if kind[2] else []
            if not is_name_text(kind[1]) or None in makers:
                return None
            kinds.append((kind[1], makers))
        elif work:
            head, rights = plain_takes(work[1]), [work[3]] if work[3] else (work[5] or "").split("; ")
            terms = [plain_read(right) for right in rights] if work[3] or work[5] else []
            if head is None or not is_name_text(work[2]) or None in terms:
                return None
            works.append((head[0], head[1], work[2], int(work[4]) if work[4] else None, terms))
        else:
            return None
    return (kinds, works) if rows[-1] == "" else None


def plain_data(ground, kind, size):
    """All data of a kind and a size, by trying all."""
    found = []
    for f in ground.makers(kind):
        takes = ground.takes(f)
        for sizes in itertools.product(range(1, size), repeat=len(takes)):
            if sum(sizes) == size - 1:
                rows = [plain_data(ground, one, many) for one, many in zip(takes, sizes)]
                found.extend(made(f, *parts) for parts in itertools.product(*rows))
    return found
