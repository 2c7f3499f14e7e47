"""desk.py: S12.1 to S12.3."""

import copy
import random
import unittest
from fractions import Fraction

from drawndeeds.desk import Desk
from drawndeeds.ends import ends
from drawndeeds.errors import BadAct, BadAsk, DeedError, NothingDone, TooMany, UnknownName
from drawndeeds.faces import all_faces
from drawndeeds.fading import is_fading
from drawndeeds.heaps import heap
from drawndeeds.meeting import first_meeting
from drawndeeds.resting import end_share
from drawndeeds.sheets import check_sheet
from drawndeeds.speeds import times
from drawndeeds.stairs import stairs
from tests.bookssupport import EXCHANGE, FALLS, OF_SUMS, W, held_of, put_in
from tests.desksupport import B_SHEET, FIRST, slow_act, some_act
from tests.support import ANYTHING, B, Case, heap_of_5040
from tests.turnssupport import T
from tests.walkssupport import EIGHTS, L, R, WHEEL


# Books of 400 members and of one more, both with times.
FOUR_HUNDRED = (
    (8, ((0, 1, 2, 3, 1, 5, 4, 7), (0, 1, 2, 2, 4, 5, 6, 7), (0, 0, 1, 3, 4, 1, 6, 7), (0, 0, 2, 0, 2, 5, 6, 6),
         (0, 1, 2, 1, 0, 5, 4, 0), (0, 1, 2, 2, 4, 0, 3, 7))),
    (8, ((0, 1, 1, 3, 4, 5, 6, 7), (0, 1, 2, 0, 1, 4, 6, 5), (0, 0, 1, 2, 1, 5, 6, 7), (0, 0, 2, 2, 4, 5, 6, 6),
         (0, 1, 2, 1, 0, 1, 6, 7), (0, 1, 0, 3, 3, 5, 1, 7))))


def desk_with(*acts):
    desk = Desk()
    for act in acts:
        desk.do(act)
    return desk


def desk_of(book, *parts):
    """A desk with a book, whose letters are called a, b and so on."""
    names = tuple("abcdef"[:len(book[1])])
    return desk_with(("sheet", (book, names, tuple(parts))))


def asked(call, *given):
    """What is returned, or the error that is raised with what it tells."""
    try:
        return call(*given)
    except DeedError as error:
        return (error.__class__.__name__, vars(error))


def all_answers(desk):
    """What a desk tells about its sheet, whatever it has been asked so far."""
    desk = desk.twin()
    names = [part[1] for part in desk.sheet()[2]] + ["nothing", None, [], True]
    n = desk.sheet()[0][0]
    found = [desk.sheet()]
    found += [asked(call) for call in (desk.size, desk.times, desk.faces, desk.is_fading, desk.is_turned, desk.ends)]
    found += [asked(call, name) for call in (desk.held, desk.share, desk.speeds) for name in names]
    found += [asked(desk.meeting, p, q) for p in range(n + 1) for q in list(range(n)) + [-1, None]]
    return found


def state(desk):
    """All that can be seen of a desk."""
    twin = desk.twin()
    undone = []
    while asked(twin.redo).__class__ is int:
        undone.append(twin.acts()[-1])
    return (desk.sheet(), desk.acts(), undone, desk.marks(), [desk.since(name) for name in desk.marks()], desk.work())


class Acts(Case):
    def test_a_new_desk(self):
        desk = Desk()
        self.gives(FIRST, desk.sheet)
        self.gives([], desk.acts)
        self.gives([], desk.marks)
        self.gives(0, desk.work)
        self.refused(NothingDone, {}, desk.undo)
        self.refused(NothingDone, {}, desk.redo)
        self.gives(1, desk.size)
        self.gives((((), 1),), desk.times)
        self.gives([()], desk.faces)
        self.gives(True, desk.is_fading)
        self.gives(True, desk.is_turned)
        self.gives(((0,),), desk.ends)
        self.gives(1, desk.work)

    def test_what_acts_do(self):
        desk = desk_with(("sheet", B_SHEET))
        self.plain(B_SHEET, desk.sheet())
        self.plain(2, desk.do(("deed", "s", (1, 1))))
        self.plain(((2, ((1, 1), (0, 0))),) + B_SHEET[1:], desk.sheet())
        self.plain(3, desk.do(("turn", "z", 1, 1)))
        self.plain(((2, ((1, 1), (0, 1))),) + B_SHEET[1:], desk.sheet())
        self.plain(4, desk.do(("drop", "v")))
        self.plain(((2, ((1, 1), (0, 1))), ("s", "z"), B_SHEET[2][:1]), desk.sheet())
        self.plain(5, desk.do(("deed", "w", (0, 0))))
        self.plain(((2, ((1, 1), (0, 1), (0, 0))), ("s", "z", "w"), B_SHEET[2][:1]), desk.sheet())
        self.plain(6, desk.do(("put", ("field", "s", (0, 1)))))
        self.plain(7, desk.do(("put", ("lot", "w", (0, 2)))))
        self.plain((("lot", "w", (0, 2)), ("field", "s", (0, 1))), desk.sheet()[2])
        self.plain([("sheet", B_SHEET), ("deed", "s", (1, 1)), ("turn", "z", 1, 1), ("drop", "v"),
            ("deed", "w", (0, 0)),
                    ("put", ("field", "s", (0, 1))), ("put", ("lot", "w", (0, 2)))], desk.acts())
        check_sheet(desk.sheet())
        self.new_lists(desk.acts(), desk.acts())

    def refuses(self, desk, word, act):
        before = state(desk)
        self.gives(word, desk.act_word, act)
        self.refused(BadAct, {"word": word}, desk.do, act)
        self.assertEqual(state(desk), before)

    def test_words_of_acts(self):
        desk = desk_with(("sheet", B_SHEET))
        for act in ((), ("sheet",), ("sheet", B_SHEET, 1), ("deed", "s"), ("turn", "s", 0), ("put",), ("drop",),
                ("undo",),
                    ["sheet", B_SHEET], ("Sheet", B_SHEET), (1, 2), (["sheet"], B_SHEET), (None, None), ("",),
                    ("drop", 1, 2),
                    ("turn", "s", 0, 0, 0), ("put", "word", "x", ()), ({}, 1), (("sheet",), 1)):
            self.refuses(desk, "form", act)
        self.refuses(desk, "sheet", ("sheet", B_SHEET[:2]))
        self.refuses(desk, "sheet", ("sheet", ((9, ()), ("a",), ())))
        self.refuses(desk, "many", ("sheet", ((9, ()), (), ())))
        self.refuses(desk, "many", ("sheet", ((1, ((0,),) * 7), tuple("abcdefg"), ())))
        self.gives(None, desk.act_word, ("sheet", ((8, (tuple(range(8)),) * 6), tuple("abcdef"), ())))
        self.refuses(desk, "name", ("deed", "S", (1, 0)))
        self.refuses(desk, "name", ("deed", "abcdefghijklm", (1, 0)))
        self.refuses(desk, "name", ("deed", None, None))
        self.refuses(desk, "deed", ("deed", "s", (1, 2)))
        self.refuses(desk, "deed", ("deed", "t", (1, True)))
        self.refuses(desk, "deed", ("deed", "t", [1, 0]))
        self.refuses(desk, "fit", ("deed", "t", (1, 0)))
        self.gives(None, desk.act_word, ("deed", "z", (1, 0)))
        self.refuses(desk, "name", ("turn", "t", 5, 5))
        self.refuses(desk, "name", ("turn", ["s"], 0, 0))
        self.refuses(desk, "name", ("turn", "w", 0, 0))
        self.refuses(desk, "place", ("turn", "s", 2, 0))
        self.refuses(desk, "place", ("turn", "s", 0, -1))
        self.refuses(desk, "place", ("turn", "s", 0, True))
        self.refuses(desk, "place", ("turn", "s", None, 0))
        self.refuses(desk, "part", ("put", ("word", "x", (2,))))
        self.refuses(desk, "part", ("put", ("word", "X", ())))
        self.refuses(desk, "part", ("put", ["word", "x", ()]))
        self.refuses(desk, "part", ("put", ("chances", "x", ((1, 2), (1, 3)))))
        self.refuses(desk, "name", ("drop", "s"))
        self.refuses(desk, "name", ("drop", ("w",)))
        self.refuses(desk, "name", ("drop", None))

    def test_many_letters_and_parts(self):
        desk = desk_of((1, ((0,),) * 6))
        self.refuses(desk, "many", ("deed", "g", (0,)))
        self.refuses(desk, "deed", ("deed", "g", (1,)))
        self.plain(2, desk.do(("deed", "f", (0,))))
        for k in range(30):
            desk.do(("put", ("word", "p" + str(k), (0,))))
        self.refuses(desk, "many", ("put", ("word", "p30", ())))
        self.refuses(desk, "part", ("put", ("word", "p30", (6,))))
        self.plain(33, desk.do(("put", ("lot", "p29", (0, 5)))))
        self.plain(("lot", "p29", (0, 5)), desk.sheet()[2][29])
        # A sheet brings more than thirty; one goes, and there are thirty-nine still.
        parts = tuple(("field", "f" + str(k), ()) for k in range(40))
        desk.do(("sheet", ((2, ()), (), parts)))
        self.assertEqual(len(desk.sheet()[2]), 40)
        self.refuses(desk, "many", ("put", ("field", "new", ())))
        desk.do(("drop", "f3"))
        self.refuses(desk, "many", ("put", ("field", "f3", ())))
        desk.do(("put", ("word", "f4", ())))
        self.plain(("word", "f4", ()), desk.sheet()[2][3])

    def test_one_letter_more_where_parts_have_a_number_for_each(self):
        desk = desk_with(("put", ("weights", "v", ())))
        self.refuses(desk, "fit", ("deed", "a", (0,)))
        desk.do(("drop", "v"))
        desk.do(("deed", "a", (0,)))
        desk.do(("put", ("chances", "c", ((1, 1),))))
        self.refuses(desk, "fit", ("deed", "b", (0,)))
        self.gives(None, desk.act_word, ("deed", "a", (0,)))
        desk.do(("put", ("lot", "c", (0,))))
        self.plain(6, desk.do(("deed", "b", (0,))))

    def test_anything_as_an_act(self):
        desk = desk_with(("sheet", B_SHEET))
        for value in ANYTHING:
            self.refuses(desk, "form", value)
            for act in (("sheet", value), ("deed", value, (0, 0)), ("deed", "s", value), ("turn", value, 0, 0),
                        ("turn", "s", value, 0), ("turn", "s", 0, value), ("put", value), ("put", ("word", value, ())),
                        ("put", ("lot", "x", value)), ("put", (value, "x", (0,))), ("drop", value), (value, 1)):
                word, sheet = slow_act(desk.sheet(), act)
                if word is not None:
                    self.refuses(desk, word, act)
                else:
                    self.gives(None, desk.act_word, act)
                    self.plain(2, desk.do(act))
                    self.assertEqual(desk.sheet(), sheet)
                    self.plain(1, desk.undo())

    def test_by_the_words_of_the_document(self):
        for seed in range(60):
            dice = random.Random(seed)
            desk, sheet, acts = Desk(), FIRST, []
            for _ in range(25):
                act = some_act(dice, sheet)
                kept = copy.deepcopy(act)
                word, more = slow_act(sheet, act)
                self.gives(word, desk.act_word, act)
                if word is None:
                    acts.append(act)
                    sheet = more
                    self.plain(len(acts), desk.do(act))
                else:
                    self.refuses(desk, word, act)
                self.assertEqual(act, kept)
                self.assertEqual(desk.sheet(), sheet)
                self.assertEqual(desk.acts(), acts)
                check_sheet(desk.sheet())


class Questions(Case):
    def test_books(self):
        for book in (B, FALLS, OF_SUMS, W, EXCHANGE, T, R, L, put_in(6), (3, ()), (1, ()), WHEEL):
            desk = desk_of(book)
            self.gives(len(heap(book)), desk.size)
            self.gives(times(book), desk.times)
            self.gives(all_faces(book), desk.faces)
            self.gives(is_fading(book), desk.is_fading)
            self.gives(stairs(book) is not None, desk.is_turned)
            self.gives(ends(book), desk.ends)
            self.assertTrue(desk.times() is None or desk.is_turned())
            self.assertTrue(not desk.is_fading() or desk.times() is not None)

    def test_held(self):
        parts = (("word", "w", (0, 0, 1, 0)), ("word", "none", ()), ("weights", "v", (1, 2)), ("lot", "l", (0,)),
                 ("word", "long", (0, 1) * 5000))
        desk = desk_of(B, *parts)
        for name, sort, word in ((part[1], part[0], part[2]) for part in parts):
            if sort == "word":
                self.gives(held_of(B, word), desk.held, name)
            else:
                self.refused(BadAsk, {"word": "sort"}, desk.held, name)
        for value in ANYTHING + ["a", "W"]:
            self.refused(BadAsk, {"word": "name"}, desk.held, value)

    def test_shares(self):
        desk = desk_of(R, ("weights", "v", (1, 1)), ("weights", "u", (10 ** 6, 1)), ("weights", "no", (1, 0)),
                       ("weights", "less", (-1, 2)), ("lot", "l", ()))
        self.gives(((2, 5), (2, 5), (1, 5)), desk.share, "v")
        self.gives(end_share(R, (10 ** 6, 1), 0), desk.share, "u")
        for name, word in (("no", "weights"), ("less", "weights"), ("l", "sort"), ("q", "name"), (["v"], "name")):
            self.refused(BadAsk, {"word": word}, desk.share, name)
        desk = desk_of(L, ("weights", "v", (1, 1)), ("weights", "no", (0, 1)), ("word", "w", ()))
        for name, word in (("v", "ends"), ("no", "weights"), ("w", "sort")):
            self.refused(BadAsk, {"word": word}, desk.share, name)
        desk = desk_with(("put", ("weights", "v", ())))
        self.refused(BadAsk, {"word": "weights"}, desk.share, "v")
        for value in ANYTHING:
            self.refused(BadAsk, {"word": "name"}, desk.share, value)

    def test_speeds(self):
        desk = desk_of(W, ("weights", "v", (2, 3)), ("weights", "same", (0, 5)), ("weights", "less", (-7, 4)),
            ("lot", "l", ()))
        self.gives([(2, 1), (3, 1), (5, 1)], desk.speeds, "v")
        self.gives([(0, 1), (5, 2)], desk.speeds, "same")
        self.gives([(-7, 1), (-3, 1), (4, 1)], desk.speeds, "less")
        self.refused(BadAsk, {"word": "sort"}, desk.speeds, "l")
        self.refused(BadAsk, {"word": "name"}, desk.speeds, "w")
        desk = desk_with(("sheet", ((3, ()), (), (("weights", "v", ()),))))
        self.gives([(0, 3)], desk.speeds, "v")
        desk = desk_of(EXCHANGE, ("weights", "v", (1,)))
        self.refused(BadAsk, {"word": "sums"}, desk.speeds, "v")
        self.gives(1, desk.work)
        for value in ANYTHING:
            self.refused(BadAsk, {"word": "name"}, desk.speeds, value)

    def test_meetings(self):
        desk = desk_of(WHEEL)
        self.gives((1,), desk.meeting, 0, 3)
        self.gives((1,), desk.meeting, 3, 0)
        self.gives((0, 1, 0, 0, 0, 1), desk.meeting, 2, 0)
        for p, q in ((0, 0), (0, 4), (4, 0), (-1, 0), (True, 0), (0, False), (None, 1), ((0,), 1), ("0", 1), (3, 3)):
            self.refused(BadAsk, {"word": "place"}, desk.meeting, p, q)
        for value in ANYTHING:
            if value.__class__ is not int or value not in range(1, 4):
                self.refused(BadAsk, {"word": "place"}, desk.meeting, 0, value)
                self.refused(BadAsk, {"word": "place"}, desk.meeting, value, 0)
        self.gives(None, desk_of(EXCHANGE).meeting, 1, 0)
        self.refused(BadAsk, {"word": "place"}, Desk().meeting, 0, 0)
        desk = desk_of(EIGHTS)
        for p in range(8):
            for q in range(p):
                self.gives(first_meeting(EIGHTS, (q, p)), desk.meeting, p, q)

    def test_too_many(self):
        weights, word = ("weights", "v", (1,) * 6), ("word", "w", (0, 1, 0))
        desk = desk_of((7, heap_of_5040()[1] * 3), weights, word)
        for call in (desk.size, desk.times, desk.faces, desk.is_fading, desk.is_turned):
            self.refused(TooMany, {}, call)
        self.refused(TooMany, {}, desk.speeds, "v")
        self.refused(BadAsk, {"word": "name"}, desk.speeds, "u")
        self.refused(BadAsk, {"word": "sort"}, desk.speeds, "w")
        self.gives(((0, 1, 2, 3, 4, 5, 6),), desk.ends)
        self.gives(((1, 7),) * 7, desk.share, "v")
        self.gives(None, desk.meeting, 0, 1)
        self.gives(held_of(heap_of_5040(), (0, 1, 0)), desk.held, "w")
        self.gives(0, desk.work)

    def test_just_400_members(self):
        book, more = FOUR_HUNDRED
        self.assertEqual((len(heap(book)), len(heap(more))), (400, 401))
        desk = desk_of(book, ("weights", "v", (1,) * len(book[1])))
        self.gives(400, desk.size)
        self.gives(times(book), desk.times)
        self.gives(all_faces(book), desk.faces)
        self.gives(is_fading(book), desk.is_fading)
        self.gives(stairs(book) is not None, desk.is_turned)
        desk = desk_of(more, ("weights", "v", (1,) * len(more[1])))
        for call in (desk.size, desk.times, desk.faces, desk.is_fading, desk.is_turned, lambda: desk.speeds("v")):
            self.refused(TooMany, {}, call)
        self.gives(0, desk.work)

    def test_numbers_add_up(self):
        for seed in range(60):
            dice = random.Random(seed)
            n, g = dice.randrange(1, 6), dice.randrange(4)
            book = (n, tuple(tuple(dice.choice((p, dice.randrange(p + 1))) for p in range(n)) for _ in range(g)))
            weights = tuple(dice.randrange(-2, 3) for _ in range(g))
            desk = desk_of(book, ("weights", "v", weights))
            told = desk.times()
            if told is None:
                self.refused(BadAsk, {"word": "sums"}, desk.speeds, "v")
                continue
            self.assertEqual(sum(number for _, number in told), n)
            speeds = self.gives(desk.speeds("v"), desk.speeds, "v")
            self.assertEqual(sum(number for _, number in speeds), n)
            self.assertEqual([z for z, _ in speeds], sorted({sum(weights[k] for k in lot) for lot, _ in told}))
            self.assertTrue(desk.is_turned())

    def test_shares_rest(self):
        for seed in range(40):
            dice = random.Random(seed)
            n, g = dice.randrange(1, 6), dice.randrange(1, 4)
            book = (n, tuple(tuple(dice.randrange(n) for _ in range(n)) for _ in range(g)))
            weights = tuple(dice.randrange(1, 9) for _ in range(g))
            desk = desk_of(book, ("weights", "v", weights))
            if len(ends(book)) > 1:
                self.refused(BadAsk, {"word": "ends"}, desk.share, "v")
                continue
            share = [Fraction(*x) for x in desk.share("v")]
            for q in range(n):
                came = sum(w * share[p] for w, deed in zip(weights, book[1]) for p in range(n) if deed[p] == q)
                self.assertEqual(came, sum(weights) * share[q])
            self.assertEqual(sum(share), 1)


class Past(Case):
    def test_undo_and_redo(self):
        desk = desk_with(("sheet", B_SHEET), ("turn", "s", 0, 0), ("drop", "v"))
        sheets = [FIRST, B_SHEET, ((2, ((0, 0), (0, 0))),) + B_SHEET[1:],
                  ((2, ((0, 0), (0, 0))), ("s", "z"), B_SHEET[2][:1])]
        for many in (2, 1, 0):
            self.plain(many, desk.undo())
            self.plain(sheets[many], desk.sheet())
        self.refused(NothingDone, {}, desk.undo)
        for many in (1, 2, 3):
            self.plain(many, desk.redo())
            self.plain(sheets[many], desk.sheet())
        self.refused(NothingDone, {}, desk.redo)
        self.plain(2, desk.undo())
        # Neither a refused act nor a mark nor a question takes what can be done again away.
        self.refused(BadAct, {"word": "name"}, desk.do, ("drop", "zz"))
        desk.mark("here")
        desk.size()
        self.plain(1, desk.undo())
        self.plain(2, desk.redo())
        self.plain(3, desk.redo())
        self.plain(2, desk.undo())
        self.plain(1, desk.undo())
        # An act that is done by other means does, also an equal one.
        self.plain(2, desk.do(("turn", "s", 0, 0)))
        self.refused(NothingDone, {}, desk.redo)
        self.plain(sheets[2], desk.sheet())

    def test_marks(self):
        desk = Desk()
        self.gives(None, lambda: desk.mark("b"))
        desk.do(("sheet", B_SHEET))
        desk.mark("a")
        desk.do(("drop", "v"))
        self.gives(["a", "b"], desk.marks)
        self.gives(2, desk.since, "b")
        self.gives(1, desk.since, "a")
        desk.undo()
        desk.undo()
        self.gives(-1, desk.since, "a")
        self.gives(0, desk.since, "b")
        desk.mark("a")
        self.gives(0, desk.since, "a")
        desk.redo()
        self.gives(1, desk.since, "a")
        for value in ANYTHING:
            if value != "a" or not isinstance(value, str):
                self.refused(UnknownName, {"name": value}, desk.since, value)
        self.refused(UnknownName, {"name": "s"}, desk.since, "s")
        self.gives(["a", "b"], desk.marks)

    def test_work(self):
        desk = desk_with(("sheet", B_SHEET))
        self.gives(0, desk.work)
        for call in (desk.ends, lambda: desk.held("w"), lambda: desk.share("v"), lambda: desk.meeting(0, 1),
                desk.sheet):
            call()
        self.gives(0, desk.work)
        for call in (desk.size, desk.times, desk.faces, desk.is_fading, desk.is_turned):
            call()
            self.gives(1, desk.work)
        self.refused(BadAsk, {"word": "name"}, desk.speeds, "q")
        desk.do(("turn", "s", 0, 0))
        self.gives(1, desk.work)
        self.refused(BadAsk, {"word": "name"}, desk.speeds, "q")
        self.refused(BadAsk, {"word": "sort"}, desk.speeds, "w")
        self.gives(1, desk.work)
        desk.is_turned()
        self.gives(2, desk.work)
        desk.undo()
        desk.faces()
        self.gives(2, desk.work)
        # The same book with other names and parts counts once.
        desk.do(("sheet", (B, ("x", "y"), ())))
        desk.size()
        self.gives(2, desk.work)
        desk.do(("sheet", (EXCHANGE, ("x",), (("weights", "v", (1,)),))))
        self.refused(BadAsk, {"word": "sums"}, desk.speeds, "v")
        self.gives(3, desk.work)
        desk.do(("sheet", (heap_of_5040(), ("x", "y"), (("weights", "v", (1, 2)),))))
        self.refused(TooMany, {}, desk.speeds, "v")
        self.refused(TooMany, {}, desk.size)
        self.gives(3, desk.work)

    def test_twins(self):
        desk = desk_with(("sheet", B_SHEET), ("drop", "v"), ("turn", "s", 0, 0))
        desk.size()
        desk.mark("here")
        desk.undo()
        twin = desk.twin()
        self.assertIsNot(twin, desk)
        self.assertEqual(state(twin), state(desk))
        self.assertEqual(all_answers(twin), all_answers(desk))
        before = state(desk)
        twin.redo()
        twin.is_fading()
        twin.mark("there")
        twin.mark("here")
        twin.do(("sheet", FIRST))
        twin.size()
        twin.undo()
        self.assertEqual(state(desk), before)
        before = state(twin)
        desk.undo()
        desk.undo()
        desk.size()
        desk.mark("further")
        desk.do(("put", ("word", "w", ())))
        self.assertEqual(state(twin), before)
        # What a desk has worked out its twin does not count again.
        book = desk.sheet()[0]
        twin = desk.twin()
        self.assertEqual((twin.sheet()[0], twin.work()), (book, desk.work()))
        twin.size()
        self.assertEqual(twin.work(), desk.work())

    def test_a_desk_answers_as_a_new_one(self):
        """Whatever was done, taken back, done again and asked: a desk tells what its acts that are done make of it."""
        for seed in range(40):
            dice = random.Random(seed)
            desk, done, undone, marks, asked_books = Desk(), [], [], {}, set()
            for _ in range(40):
                step = dice.choice(("do", "do", "do", "undo", "redo", "redo", "ask", "mark", "twin"))
                book = desk.sheet()[0]
                if step == "do":
                    act = some_act(dice, desk.sheet())
                    if desk.act_word(act) is None:
                        done.append(act)
                        undone = []
                        self.plain(len(done), desk.do(act))
                    else:
                        self.refused(BadAct, {"word": desk.act_word(act)}, desk.do, act)
                elif step == "undo" and done:
                    undone.append(done.pop())
                    self.plain(len(done), desk.undo())
                elif step == "redo" and undone:
                    done.append(undone.pop())
                    self.plain(len(done), desk.redo())
                elif step in ("undo", "redo"):
                    self.refused(NothingDone, {}, desk.undo if step == "undo" else desk.redo)
                elif step == "ask":
                    ask = dice.choice((desk.size, desk.times, desk.faces, desk.is_fading, desk.is_turned))
                    if asked(ask) != ("TooMany", {}):
                        asked_books.add(book)
                elif step == "mark":
                    name = dice.choice("klm")
                    marks[name] = len(done)
                    desk.mark(name)
                else:
                    desk = desk.twin()
                self.assertEqual(desk.acts(), done)
                self.assertEqual({name: len(done) - at for name, at in marks.items()},
                                 {name: desk.since(name) for name in desk.marks()})
                self.assertEqual(desk.work(), len(asked_books))
            self.assertEqual(all_answers(desk), all_answers(desk_with(*done)))
            self.assertEqual(state(desk)[2], undone[::-1])


if __name__ == "__main__":
    unittest.main()
