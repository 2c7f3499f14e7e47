"""Acts and lines for desks, and a slow way to what acts do, by the words of S12.1."""

from drawndeeds.errors import BadTree
from drawndeeds.sheets import check_sheet
from tests.sheetsupport import some_sheet

FIRST = ((1, ()), (), ())
B_SHEET = ((2, ((1, 0), (0, 0))), ("s", "z"), (("word", "w", (0, 0, 1, 0)), ("weights", "v", (1, 2))))
NAMES = ("a", "b", "c", "d", "e", "f", "g", "sheet", "turn")
PART_NAMES = ("p", "q", "r", "a", "word", "x1")


def is_sheet(value):
    try:
        check_sheet(value)
    except BadTree:
        return False
    return True


def is_name(value):
    return (isinstance(value, str) and 1 <= len(value) <= 12 and value[0] in "abcdefghijklmnopqrstuvwxyz"
            and all(sign in "abcdefghijklmnopqrstuvwxyz0123456789" for sign in value))


def is_place(value, n):
    return isinstance(value, int) and not isinstance(value, bool) and 0 <= value < n


def slow_act(sheet, act):
    """The word with which an act cannot be done, or None, and the sheet behind it."""
    members = {"sheet": 2, "deed": 3, "turn": 4, "put": 2, "drop": 2}
    if not isinstance(act, tuple) or not act or not isinstance(act[0], str) or members.get(act[0]) != len(act):
        return "form", sheet
    (n, deeds), names, parts = sheet
    if act[0] == "sheet":
        if not is_sheet(act[1]):
            return "sheet", sheet
        return ("many", sheet) if act[1][0][0] > 8 or len(act[1][0][1]) > 6 else (None, act[1])
    if act[0] == "deed":
        _, name, deed = act
        if not is_name(name):
            return "name", sheet
        if not isinstance(deed, tuple) or len(deed) != n or not all(is_place(p, n) for p in deed):
            return "deed", sheet
        if len(deeds) >= 6 and name not in names:
            return "many", sheet
        if name in names:
            made = ((n, tuple(deed if name == other else old for other, old in zip(names, deeds))), names, parts)
        else:
            made = ((n, deeds + (deed,)), names + (name,), parts)
        return (None, made) if is_sheet(made) else ("fit", sheet)
    if act[0] == "turn":
        _, name, p, q = act
        if not any(other == name for other in names):
            return "name", sheet
        if not is_place(p, n) or not is_place(q, n):
            return "place", sheet
        made = tuple(old if other != name else old[:p] + (q,) + old[p + 1:] for other, old in zip(names, deeds))
        return None, ((n, made), names, parts)
    if act[0] == "put":
        part = act[1]
        if not is_sheet(((n, deeds), names, (part,))):
            return "part", sheet
        taken = [other[1] for other in parts]
        if part[1] in taken:
            return None, ((n, deeds), names, tuple(part if other[1] == part[1] else other for other in parts))
        return ("many", sheet) if len(parts) >= 30 else (None, ((n, deeds), names, parts + (part,)))
    if not any(other[1] == act[1] for other in parts):
        return "name", sheet
    return None, ((n, deeds), names, tuple(other for other in parts if other[1] != act[1]))


def some_act(dice, sheet):
    """Some act, mostly one that can be done."""
    (n, deeds), names, parts = sheet
    g = len(deeds)
    kind = dice.choice(("sheet", "deed", "deed", "turn", "turn", "put", "put", "put", "drop", "wrong"))
    if kind == "sheet":
        return ("sheet", some_sheet(dice.randrange(300)))
    if kind == "deed":
        return ("deed", dice.choice(NAMES), tuple(dice.randrange(n) for _ in range(n)))
    if kind == "turn":
        return ("turn", dice.choice(names or NAMES), dice.randrange(n), dice.randrange(n))
    if kind == "drop":
        return ("drop", dice.choice([part[1] for part in parts] or PART_NAMES))
    if kind == "put":
        value = dice.choice((
            ("word", tuple(dice.randrange(g) for _ in range(dice.randrange(6))) if g else ()),
            ("weights", tuple(dice.choice((1, 2, 7, 10 ** 6, 0, -3)) for _ in range(g))),
            ("weights", tuple(dice.randrange(1, 9) for _ in range(g))),
            ("lot", tuple(k for k in range(g) if dice.random() < 0.5)),
            ("field", tuple(p for p in range(n) if dice.random() < 0.5)),
            ("lead", tuple(dice.randrange(n) for _ in range(n)))))
        return ("put", (value[0], dice.choice(PART_NAMES), value[1]))
    return dice.choice((("turn", "a", n, 0), ("deed", "A", (0,) * n), ("deed", "a", (n,)), ("put", ("word", "p", (g,))),
                        ("put", None), ("drop", "zz"), ("undo",), (), None, ("sheet", 7), ("turn", "zz", 0, 0)))
