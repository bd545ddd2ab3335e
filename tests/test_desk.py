"""Desks: [280] to [283], and desk.py of the interface."""

import random
import unittest
from time import process_time

from soundturns.desk import Desk
from soundturns.making import list_machine
from soundturns.papers import decide
from soundturns.texts import read_rules, text_of_rules
from tests.samples import first_apart, small_rule, some_list, words_up_to
from tests.test_feeding import MANY_PLACES
from tests.test_making import MANY_STATES, SIXTY_ONE

EXAMPLE = "a > b / _ b ; b > - / b _ #"
# Lines that put something under a name, ask and drop; each one with its answer.
TALK = (("list one 2 " + EXAMPLE, "2"), ("list two 2 a > b / _ b", "1"), ("list none 2 none", "0"),
        ("show one", EXAMPLE), ("show none", "none"), ("form one aab", "ab"), ("steps one aab", "aab abb ab"),
        ("pieces one aab", "a b -"), ("acting one aab", "0 1"), ("acting one aa", "empty"), ("first one b", "b"),
        ("first two ab", "none"), ("endless one b", "no"), ("sources one b 3", "0 1 2 0"), ("machine two", "2"),
        ("single two", "no"), ("single none", "yes"), ("missing two", "ab"), ("missing none", "none"),
        ("needless one", "empty"), ("idle one", "empty"), ("steady two", "aab"), ("steady none", "yes"),
        ("orders one", "2"), ("alike one two", "ab"), ("alike one one", "yes"), ("decide one two", "apart"),
        ("decide two two", "alike"), ("table two two", "2"), ("table one two", "none"), ("feeds one 0 one 1", "ab"),
        ("bleeds one 1 one 0", "none"), ("join both one two", "3"), ("show both", EXAMPLE + " ; a > b / _ b"),
        ("turn both one", "2"), ("show both", "a > b / b _ ; b > - / # _ b"), ("rename both one ba", "2"),
        ("show both", "b > a / _ a ; a > - / a _ #"), ("list both 2 a > b / _ ; a > - / _", "2"),
        ("thin both both", "1"), ("show both", "a > b / _"), ("learn new 2 1 ab bb ba ba", "1"),
        ("show new", "a > b / _ b"), ("drop new", "ok"), ("show new", "unknown new"))


def told_desk(*lines):
    """Return a desk that has answered lines, and check that it did not answer them as wrong ones."""
    desk = Desk()
    for line in lines:
        if desk.answer(line).split(" ")[0] in ("bad", "unknown", "refused"):
            raise AssertionError(line)
    return desk


class DeskCase(unittest.TestCase):
    def check(self, desk, line, answer):
        """Check the answer to a line that does not change the desk."""
        before = [(name, desk.thing(name)) for name in desk.names()]
        self.assertEqual(desk.answer(line), answer, line)
        self.assertEqual([(name, desk.thing(name)) for name in desk.names()], before, line)


class TalkTest(DeskCase):
    def test_lines_one_by_one(self):
        desk = Desk()
        for line, answer in TALK:
            self.assertEqual(desk.answer(line), answer, line)
        self.assertEqual(desk.names(), ["both", "none", "one", "two"])

    def test_answers(self):
        desk = Desk()
        lines = [line for line, _ in TALK]
        self.assertEqual(desk.answers(lines), [answer for _, answer in TALK])
        self.assertEqual(lines, [line for line, _ in TALK])
        self.assertEqual(desk.answers([]), [])
        for many in range(0, len(TALK), 7):
            self.assertEqual(Desk().answers(lines[:many]), [answer for _, answer in TALK[:many]])

    def test_names_and_things(self):
        desk = Desk()
        self.assertEqual((desk.names(), desk.thing("a")), ([], None))
        desk.answers(["list zz 6 f > - / _", "list a 2 none", "list bb 3 c > ab / # _ ; a > b / _ #"])
        self.assertEqual(desk.names(), ["a", "bb", "zz"])
        self.assertEqual(desk.thing("a"), (2, ()))
        self.assertEqual(desk.thing("bb"), (3, read_rules(3, "c > ab / # _ ; a > b / _ #")))
        self.assertEqual(desk.thing("zz"), (6, (("f", "", (), ()),)))
        for name in ("b", "", "A", "A" * 100, "-", "z z"):
            self.assertIsNone(desk.thing(name))
        desk.answer("drop bb")
        self.assertEqual((desk.names(), desk.thing("bb")), (["a", "zz"], None))
        desk.names().append("x")
        self.assertEqual(desk.names(), ["a", "zz"])

    def test_two_desks_share_nothing(self):
        one, other = Desk(), Desk()
        one.answer("list a 2 none")
        self.assertEqual((one.names(), other.names()), (["a"], []))
        other.answer("list b 2 none")
        self.assertEqual((one.names(), other.names()), (["a"], ["b"]))


class ChangingTest(DeskCase):
    def test_list(self):
        desk = Desk()
        for line, answer in (("list a 2 none", "0"), ("list a 6 f > e / _", "1"),
                             ("list a 2 a > b / _ ; a > - / _", "2"), ("list abcdefghijkl 3 c > - / # abc _ b #", "1")):
            self.assertEqual(desk.answer(line), answer)
        self.assertEqual(desk.thing("a"), (2, read_rules(2, "a > b / _ ; a > - / _")))
        eight = " ; ".join(["a > b / _"] * 8)
        self.assertEqual(desk.answer(f"list a 2 {eight}"), "8")
        for line in ("list b 2", "list b 2 a", "list b 2 a > b / _ ;", f"list b 2 {eight} ; a > b / _",
                     "list b 2 c > a / _", "list b 2 none none", "list b 1 none", "list b 0 none", "list b 7 none",
                     "list b 99 none", "list a 2 -", "list a 1 a > b / _"):
            self.check(desk, line, "refused")
        for line in ("list", "list b", "list b -1 none", "list b 02 none", "list b 100 none", "list b two none",
                     "list B 2 none", "list abcdefghijklm 2 none", "list b1 2 none", "list - 2 none"):
            self.check(desk, line, "bad")

    def test_drop(self):
        desk = told_desk("list a 2 none", "list b 2 none")
        self.assertEqual(desk.answers(["drop a", "drop a", "drop b", "list a 2 a > b / _"]),
                         ["ok", "unknown a", "ok", "1"])
        self.assertEqual(desk.names(), ["a"])

    def test_join(self):
        desk = told_desk("list a 2 a > b / _", "list b 2 b > a / _ ; a > - / _", "list c 3 none", "list e 2 none")
        self.assertEqual(desk.answer("join d a b"), "3")
        self.assertEqual(desk.answer("show d"), "a > b / _ ; b > a / _ ; a > - / _")
        self.assertEqual(desk.answers(["join d b a", "show d"]), ["3", "b > a / _ ; a > - / _ ; a > b / _"])
        self.assertEqual(desk.answers(["join a a a", "join a a a", "join a a a", "machine a"]), ["2", "4", "8", "1"])
        self.assertEqual(desk.answers(["join f e e", "show f", "join f a e"]), ["0", "none", "8"])
        for line in ("join d a b", "join a a a", "join d a c", "join c c a", "join x c e"):
            self.check(desk, line, "refused")
        self.assertEqual(desk.answer("join c c c"), "0")
        for line, name in (("join d x y", "x"), ("join d a y", "y"), ("join d x a", "x")):
            self.check(desk, line, f"unknown {name}")

    def test_turn_and_rename(self):
        desk = told_desk("list a 3 a > bc / # ab _ c", "list e 2 none")
        self.assertEqual(desk.answers(["turn b a", "show b", "turn b b", "show b"]),
                         ["1", "a > cb / c _ ab #", "1", "a > bc / # ab _ c"])
        self.assertEqual(desk.answers(["rename b a bca", "show b", "rename b b cab", "show b"]),
                         ["1", "b > ca / # bc _ a", "1", "a > bc / # ab _ c"])
        self.assertEqual(desk.answers(["turn e e", "rename e e ba", "show e"]), ["0", "0", "none"])
        for word in ("ab", "abcd", "aab", "-", "ABC", "abd", "none"):
            self.check(desk, f"rename b a {word}", "refused")
            self.check(desk, f"rename b e {word}x", "refused")

    def test_thin(self):
        desk = told_desk("list a 3 a > b / _ ; a > c / _ ; b > a / _", "list e 2 none")
        self.assertEqual(desk.answers(["needless a", "thin b a", "show b", "thin a a", "show a", "thin e e"]),
                         ["1", "1", "b > a / _", "1", "b > a / _", "0"])

    def test_learn(self):
        desk = Desk()
        for line, answer, text in (
                ("learn a 2 1 ab bb ba ba", "1", "a > b / _ b"), ("learn a 2 0", "1", "a > - / _"),
                ("learn a 3 2 c -", "1", "c > - / _"), ("learn a 2 2 a ba", "1", "a > ba / _"),
                ("learn a 3 1 abc abb", "1", "c > b / _"), ("learn a 2 1 - -", "1", "a > - / _")):
            self.assertEqual(desk.answers([line, "show a"]), [answer, text])
        for line in ("learn a 2 1 ab ba", "learn b 2 0 a b", "learn b 2 2 a a a b", "learn a 3 2 - a"):
            self.check(desk, line, "none")
        pairs = " ".join(["a", "b"] * 40)
        self.assertEqual(desk.answer(f"learn b 2 1 {pairs}"), "1")
        long = "a" * 61
        for line in ("learn a 2 1 a", "learn a 2 1 a b a", "learn a 4 1", "learn a 1 1 a a", "learn a 2 3 a b",
                     "learn a 2 99", "learn a 2 1 c a", f"learn a 2 1 {long} a", f"learn b 2 1 {pairs} a b",
                     "learn c 2 1 a --"):
            self.check(desk, line, "refused")
        for line in ("learn a 2", "learn a", "learn a 2 x", "learn a 2 -1 a b", "learn A 2 1 a b", "learn a 02 1"):
            self.check(desk, line, "bad")

    def test_a_name_that_has_a_list(self):
        desk = told_desk("list a 2 a > b / _", "list a 3 none")
        self.assertEqual(desk.thing("a"), (3, ()))
        desk.answers(["list b 3 c > a / _", "join a a b", "turn b a", "learn b 2 1 a b"])
        self.assertEqual(desk.thing("a"), (3, (("c", "a", (), ()),)))
        self.assertEqual(desk.thing("b"), (2, (("a", "b", (), ()),)))


class AskingTest(DeskCase):
    def test_forms(self):
        desk = told_desk("list a 2 " + EXAMPLE, "list e 2 none", "list x 2 a > - / _ ; b > - / _")
        for line, answer in (("form a -", "-"), ("form e -", "-"), ("form x abab", "-"), ("form e abab", "abab"),
                             ("steps a -", "- - -"), ("steps e -", "-"), ("steps e ab", "ab"), ("steps x ab", "ab b -"),
                             ("pieces a -", "empty"), ("pieces x ab", "- -"), ("pieces e ab", "a b"),
                             ("acting a -", "empty"), ("acting x ab", "0 1"), ("acting x b", "1"),
                             ("acting e ab", "empty")):
            self.check(desk, line, answer)
        grow = told_desk("list a 2 " + " ; ".join(["a > aaa / _"] * 4))
        for command in ("form", "steps", "pieces", "acting"):
            self.check(grow, f"{command} a {'a' * 60}", "refused")
            self.check(grow, f"{command} a {'a' * 61}", "refused")
            for word in ("c", "#", "--", "A", "ab-"):
                self.check(desk, f"{command} a {word}", "refused")
            for line in (command, f"{command} a", f"{command} a b b", f"{command} A b", f"{command} - b"):
                self.check(desk, line, "bad")
            self.check(desk, f"{command} nothing c", "unknown nothing")

    def test_sources(self):
        desk = told_desk("list a 2 a > b / _ a", "list d 2 a > - / _", "list e 2 none")
        for line, answer in (("first a ba", "aa"), ("first a aa", "none"), ("first a -", "-"), ("first d -", "-"),
                             ("first d b", "b"), ("first d a", "none"), ("endless a ba", "no"), ("endless d b", "yes"),
                             ("endless d a", "no"), ("endless d -", "yes"), ("sources d b 4", "0 1 2 3 4"),
                             ("sources a ba 3", "0 0 2 0"), ("sources e - 0", "1"), ("sources e ab 0", "0"),
                             ("sources d - 60", " ".join(["1"] * 61))):
            self.check(desk, line, answer)
        for line in ("sources d b 61", "sources d b 99", "sources d c 2", "first d c", "endless d c",
                     "first a " + "a" * 61):
            self.check(desk, line, "refused")
        for line in ("sources d b", "sources d b 100", "sources d b 00", "sources d b -1", "sources d b x", "first d",
                     "endless", "sources d b 1 1"):
            self.check(desk, line, "bad")

    def test_machines(self):
        desk = told_desk("list a 2 a > b / _ a", "list d 2 a > - / _", "list e 6 none")
        for line, answer in (("machine a", "2"), ("machine e", "1"), ("single a", "no"), ("single e", "yes"),
                             ("missing a", "aa"), ("missing d", "a"), ("missing e", "none"), ("steady a", "yes"),
                             ("steady d", "yes"), ("steady e", "yes"), ("orders a", "1"), ("orders e", "1")):
            self.check(desk, line, answer)
        self.check(told_desk("list a 2 a > - / _ ; a > - / _ ; b > a / _"), "missing a", "b")
        desk = told_desk("list a 2 a > aa / _ #")
        self.check(desk, "steady a", "a")

    def test_lists_of_rules(self):
        desk = told_desk("list a 2 a > b / _ ; a > - / # _ ; b > b / _", "list e 2 none")
        for line, answer in (("needless a", "1 2"), ("idle a", "1"), ("needless e", "empty"), ("idle e", "empty"),
                             ("orders a", "2"), ("steady a", "yes"), ("machine a", "1")):
            self.check(desk, line, answer)
        desk = told_desk("list a 2 " + " ; ".join(["a > b / _"] * 5))
        self.check(desk, "orders a", "refused")
        self.check(desk, "needless a", "0 1 2 3 4")
        self.check(desk, "idle a", "1 2 3 4")

    def test_two_lists(self):
        desk = told_desk("list a 2 a > b / _ b", "list b 2 none", "list c 2 a > b / _ b ; a > a / _", "list d 3 none")
        for line, answer in (("alike a b", "ab"), ("alike b a", "ab"), ("alike a c", "yes"), ("alike a a", "yes"),
                             ("decide a b", "apart"), ("decide a c", "alike"), ("decide d d", "alike"),
                             ("table a b", "none"), ("table a c", "2"), ("table b b", "1"), ("table d d", "1")):
            self.check(desk, line, answer)
        for command in ("alike", "decide", "table"):
            for line in (f"{command} a d", f"{command} d a", f"{command} d b"):
                self.check(desk, line, "refused")
            for line in (command, f"{command} a", f"{command} a b c", f"{command} a 1", f"{command} a B"):
                self.check(desk, line, "bad")
            self.check(desk, f"{command} x y", "unknown x")
            self.check(desk, f"{command} a y", "unknown y")

    def test_feeds_and_bleeds(self):
        desk = told_desk("list a 2 a > b / _ b ; b > a / _ b", "list b 2 b > a / _", "list c 3 none", "list e 2 none",
                         "list f 2 a > aa / _", "list g 3 c > a / _")
        for line, answer in (("feeds a 0 a 1", "ab"), ("bleeds a 1 a 0", "none"), ("bleeds a 0 a 0", "ab"),
                             ("feeds b 0 a 1", "none"), ("bleeds b 0 a 1", "bb"), ("feeds a 0 a 0", "none"),
                             ("feeds f 0 a 0", "none"), ("feeds g 0 g 0", "none"), ("bleeds g 0 g 0", "c")):
            self.check(desk, line, answer)
        for command in ("feeds", "bleeds"):
            for rest in ("a 2 a 0", "a 0 a 2", "a 99 b 0", "e 0 a 0", "a 0 e 0", "a 0 c 0", "c 0 a 0", "a 0 g 0",
                         "g 0 a 0"):
                self.check(desk, f"{command} {rest}", "refused")
            for rest in ("", " a", " a 0", " a 0 b", " a 0 b 0 0", " a b 0 0", " a -1 b 0", " a 00 b 0", " a 100 b 0"):
                self.check(desk, command + rest, "bad")
            for rest, name in (("x 0 y 0", "x"), ("a 0 y 9", "y"), ("a 9 y 0", "y"), ("x 9 a 9", "x")):
                self.check(desk, f"{command} {rest}", f"unknown {name}")

    def test_too_large(self):
        desk = told_desk("list m 2 " + text_of_rules(2, MANY_STATES), "list s 2 " + text_of_rules(2, SIXTY_ONE),
                         "list p 6 " + text_of_rules(6, MANY_PLACES), "list a 2 a > b / _")
        for name in "ms":
            for line in ("machine L", "single L", "missing L", "needless L", "steady L", "thin x L", "alike L a",
                         "alike a L", "decide L L", "decide a L", "table L L", "first L -", "endless L -",
                         "sources L - 1"):
                self.check(desk, line.replace("L", name), "refused")
        self.check(desk, "idle p", "refused")
        self.check(desk, "form s a", desk.answer("steps s a").split(" ")[-1])


class WrongLinesTest(DeskCase):
    def test_malformed_lines_and_commands(self):
        desk = told_desk("list a 2 none")
        for line in ("", " ", " show a", "show a ", "show  a", "show\ta", "show a\n", "show \u00e9", "Show a", "SHOW a",
                     "shows a", "a", "a a", "-", "list\u00a0a", "form a \x7f", "#", "table", "form_of a a", "read a",
                     "keep", "names"):
            self.check(desk, line, "bad")

    def test_the_number_of_words(self):
        desk = told_desk("list a 2 a > b / _", "list b 2 none")
        right = {"drop": 1, "show": 1, "join": 3, "turn": 2, "rename": 3, "thin": 2, "form": 2, "steps": 2, "pieces": 2,
                 "acting": 2, "first": 2, "endless": 2, "sources": 3, "machine": 1, "single": 1, "missing": 1,
                 "needless": 1, "idle": 1, "steady": 1, "orders": 1, "alike": 2, "decide": 2, "table": 2, "feeds": 4,
                 "bleeds": 4}
        for command, many in right.items():
            for number in range(7):
                if number != many:
                    self.check(desk, " ".join([command] + ["a"] * number), "bad")
            wrong = " ".join([command] + ["x"] * many)
            if command not in ("sources", "feeds", "bleeds"):
                self.check(desk, wrong, "unknown x")
            else:
                self.check(desk, wrong, "bad")

    def test_the_order_of_what_is_wrong(self):
        desk = told_desk("list a 2 a > b / _", "list c 3 none")
        for line, answer in (
                ("sources x c 100", "bad"), ("sources x c 99", "unknown x"), ("sources a c 99", "refused"),
                ("rename B x q", "bad"), ("rename b x q", "unknown x"), ("rename b a q", "refused"),
                ("join b X c", "bad"), ("join b x a", "unknown x"), ("join b a x", "unknown x"),
                ("join b a c", "refused"), ("drop A", "bad"), ("drop b", "unknown b"), ("show abcdefghijklm", "bad"),
                ("show abcdefghijkl", "unknown abcdefghijkl"), ("feeds x 0 a 100", "bad"), ("feeds a 0 c 0", "refused"),
                ("feeds a 7 x 7", "unknown x"), ("alike c x", "unknown x"), ("list b 2", "refused"), ("list b", "bad"),
                ("list b 100", "bad"), ("list b 7 x", "refused"), ("learn b 2 1 x", "refused"),
                ("learn b 2 100 x", "bad"), ("form x", "bad"), ("form x c", "unknown x"), ("form a c", "refused"),
                ("orders b", "unknown b")):
            self.check(desk, line, answer)


class AgreeingTest(DeskCase):
    def test_alike_decide_and_table(self):
        source = random.Random(283)
        words = words_up_to(2, 6)
        found = {True: 0, False: 0}
        for _ in range(150):
            one = tuple(small_rule(source, 2) for _ in range(source.randint(0, 4)))
            other = one[::-1] if source.random() < 0.5 else one[1:]
            desk = told_desk("list a 2 " + text_of_rules(2, one), "list b 2 " + text_of_rules(2, other))
            word = first_apart(one, other, words)
            is_same = word is None
            self.check(desk, "alike a b", "yes" if is_same else word)
            self.check(desk, "decide a b", "alike" if is_same else "apart")
            many = desk.answer("table a b")
            self.assertEqual(many, str(len(list_machine(2, one)[2])) if is_same else "none")
            self.assertEqual(decide(2, one, other)[0], desk.answer("decide a b"))
            found[is_same] += 1
        self.assertGreater(min(found.values()), 30)

    def test_lines_with_lists_of_any_rules(self):
        source = random.Random(281)
        begin = process_time()
        for _ in range(6):
            k = source.randint(2, 6)
            desk = told_desk(f"list a {k} " + text_of_rules(k, some_list(source, k, 4)), f"list b {k} none")
            for line in ("machine a", "single a", "needless a", "idle a", "steady a", "orders a", "alike a b",
                         "decide a b", "table a a", "thin c a", "turn c a", "join c a a", "first a ab", "endless a ab",
                         "sources a ab 60"):
                self.assertNotIn(desk.answer(line).split(" ")[0], ("bad", "unknown"))
        self.assertLess(process_time() - begin, 40)


if __name__ == "__main__":
    unittest.main()
