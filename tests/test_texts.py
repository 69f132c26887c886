"""Point 36: builds, steps, rules, charters and lists written and read back, and what is refused."""

import itertools
import random
import unittest

from farbuilds.builds import is_build
from farbuilds.charters import is_charter, is_list
from farbuilds.errors import NoText
from farbuilds.rules import is_rule
from farbuilds.steps import are_steps
from farbuilds.texts import read, show_build, show_charter, show_list, show_rule, show_steps
from tests.helpers import refusal, shown, things, unchanged

SHOWS = {"build": show_build, "steps": show_steps, "rule": show_rule, "charter": show_charter, "list": show_list}
FORMS = {"build": is_build, "steps": are_steps, "rule": is_rule, "charter": is_charter, "list": is_list}
DEEP = ("not", ("all", ("any", ("is", "a", 1)), ("not", ("least", "b", 0))))
EIGHT = ("all", ("any",) + (("is", "a", "x"),) * 4, ("any",) + (("most", "end", 999),) * 3, ("any",))
HOLDERS = tuple((name, key) for name, key in zip(("a", "b", "c", "d", "e", "zzzzzzzz"), (1, 2, 996, 10, 99, 500)))
WRITTEN = [
    ("build", (("a", ()),), "file a"),
    ("build", (("a", ("x", "y")), ("b", ()), ("bb", ("file",))), "file a x y\nfile b\nfile bb file"),
    ("build", tuple((name, ("w",) * 9) for name in "abcdef"), "\n".join("file " + name + " w" * 9 for name in "abcdef")),
    ("build", (("a", ("abcdefgh",) * 40), ("b", ("x",) * 18)), "file a" + " abcdefgh" * 40 + "\nfile b" + " x" * 18),
    ("steps", (), ""),
    ("steps", (("old", 0, 1),), "old 0 1"),
    ("steps", (("own", 59, 60), ("new", ("=a", "x")), ("old", 10 ** 59, 10 ** 60 - 1)), f"own 59 60\nnew =a x\nold {10 ** 59} {10 ** 60 - 1}"),
    ("steps", (("new", ("new", "old", "=new")), ("new", ("a",) * 70)), "new new old =new\nnew" + " a" * 70),
    ("rule", ("is", "a", 0), "is a 0"),
    ("rule", ("is", "is", "end"), "is is end"),
    ("rule", ("is", "end", 999), "is end 999"),
    ("rule", ("least", "most", 10), "least most 10"),
    ("rule", ("most", "all", 7), "most all 7"),
    ("rule", ("all",), "all end"),
    ("rule", ("any",), "any end"),
    ("rule", ("not", ("any", ("all",), ("is", "x", "all"))), "not any all end is x all end"),
    ("rule", DEEP, "not all any is a 1 end not least b 0 end"),
    ("rule", EIGHT, "all any" + " is a x" * 4 + " end any" + " most end 999" * 3 + " end any end end"),
    ("rule", ("not", ("not", ("not", ("all",)))), "not not not all end"),
    ("charter", (1, (("a", 1),), (1, 1, 1)), "charter 1 1 1 1\nholder a 1"),
    ("charter", (999, HOLDERS, (6, 1, 3)), "charter 999 6 1 3\n" + "\n".join(f"holder {name} {key}" for name, key in HOLDERS)),
    ("list", (1, 0, ()), "list 1 0"),
    ("list", (999, 10 ** 9, ()), "list 999 1000000000"),
    ("list", (7, 500, (("app", 60, 996, 99, ("is", "os", "entry")),)), "list 7 500\nentry app 60 996 99 is os entry"),
    (
        "list", (7, 500, tuple((name, 1, 0, 0, rule) for name, rule in zip("abcdef", (DEEP, EIGHT, ("all",), ("any",), DEEP, EIGHT)))),
        "list 7 500\n" + "\n".join(
            f"entry {name} 1 0 0 {show_rule(rule)}" for name, rule in zip("abcdef", (DEEP, EIGHT, ("all",), ("any",), DEEP, EIGHT))
        ),
    ),
]


class Written(unittest.TestCase):
    def test_the_very_text_and_the_very_thing(self):
        for kind, thing, text in WRITTEN:
            self.assertTrue(FORMS[kind](thing), thing)
            told = unchanged(SHOWS[kind], thing)
            self.assertEqual(told, text)
            self.assertIs(type(told), str)
            self.assertEqual(shown(unchanged(read, kind, text)), shown(thing))

    def test_drawn_things(self):
        for seed in range(400):
            draw = random.Random(seed)
            for kind, make in (("build", a_build), ("steps", some_steps), ("rule", a_rule), ("charter", a_charter), ("list", a_list)):
                thing = make(draw)
                self.assertTrue(FORMS[kind](thing), thing)
                text = SHOWS[kind](thing)
                self.assertRegex(text, r"\A[ -~\n]*\Z")
                self.assertNotIn("%", text)
                self.assertEqual(shown(read(kind, text)), shown(thing))


def a_word(draw, most=8):
    return "".join(draw.choice("abcxyz") for nth in range(draw.randrange(1, most + 1)))


def some_names(draw, most):
    return sorted({a_word(draw) for nth in range(draw.randrange(1, most + 1))})


def a_build(draw):
    return tuple((name, tuple(a_word(draw) for nth in range(draw.randrange(9)))) for name in some_names(draw, 6))


def some_steps(draw):
    def a_step():
        kind = draw.choice(("old", "own", "new"))
        if kind == "new":
            return ("new", tuple(draw.choice(("", "=")) + a_word(draw) for nth in range(draw.randrange(1, 5))))
        return (kind, draw.choice((0, 1, 59, 10 ** 59)), draw.choice((1, 10, 10 ** 60 - 1)))

    return tuple(a_step() for nth in range(draw.randrange(5)))


def a_rule(draw):
    while True:
        rule = rule_within(draw, 4)
        if is_rule(rule):
            return rule


def rule_within(draw, within):
    kind = draw.choice(("is", "least", "most", "not", "all", "any") if within > 1 else ("is", "least", "most", "all", "any"))
    if kind == "is":
        return ("is", a_word(draw), draw.choice((0, 999, a_word(draw))))
    if kind in ("least", "most"):
        return (kind, a_word(draw), draw.choice((0, 5, 999)))
    if kind == "not":
        return ("not", rule_within(draw, within - 1))
    return (kind,) + tuple(rule_within(draw, within - 1) for nth in range(draw.randrange(4) if within > 1 else 0))


def wide_rule(draw, counts):
    """An all or any, for each count, of as many plain ones, some of them denied."""
    def plain():
        rule = draw.choice((("is", a_word(draw), 3), ("least", a_word(draw), 0), ("most", a_word(draw), 999), ("all",), ("any",)))
        return draw.choice((rule, ("not", rule)))

    return (draw.choice(("all", "any")),) + tuple(
        (draw.choice(("all", "any")),) + tuple(plain() for nth in range(count)) for count in counts
    )


def a_charter(draw):
    names = some_names(draw, 6)
    holders = tuple((name, draw.choice((1, 500, 996))) for name in names)
    return (draw.choice((1, 999)), holders, tuple(draw.randrange(1, len(names) + 1) for nth in range(3)))


def a_list(draw):
    entries = tuple(
        (name, draw.choice((1, 60)), draw.choice((0, 996)), draw.choice((0, 99)), a_rule(draw)) for name in some_names(draw, 6)
    )
    return (draw.choice((1, 999)), draw.choice((0, 77, 10 ** 9)), draw.choice((entries, ())))


class Refused(unittest.TestCase):
    def refused(self, kind, text, row):
        error = refusal(NoText, read, kind, text)
        self.assertIsNotNone(error, (kind, text))
        self.assertEqual(error.row, row, (kind, text))
        self.assertIs(type(error.row), int)

    def rows_refused(self, kind, good, bad):
        """Each bad row is refused with its number, at each place among good ones, the first one of several."""
        for row in bad:
            for at in range(1, len(good) + 1):
                self.refused(kind, "\n".join(good[:at] + [row] + good[at:]), at)
                self.refused(kind, "\n".join(good[:at] + [row, row, "?"]), at)

    def test_no_text(self):
        for kind in SHOWS:
            for thing in things():
                if not isinstance(thing, str):
                    self.refused(kind, thing, 0)

    def test_the_text_without_signs(self):
        for kind in SHOWS:
            if kind == "steps":
                self.assertEqual(read("steps", ""), ())
            else:
                self.refused(kind, "", 0)
            self.refused(kind, "\n", 0)
            self.refused(kind, " ", 0)

    def test_a_line_feed_at_the_end_or_at_the_beginning(self):
        for kind, thing, text in WRITTEN:
            if text:
                self.refused(kind, text + "\n", text.count("\n") + 1)
                self.refused(kind, "\n" + text, 0)

    def test_blanks(self):
        for kind, thing, text in WRITTEN:
            for at, sign in enumerate(text):
                if sign == " ":
                    row = text[:at].count("\n")
                    self.refused(kind, text[:at] + " " + text[at:], row)
                if sign == "\n":
                    row = text[:at].count("\n")
                    self.refused(kind, text[:at] + " " + text[at:], row)
                    self.refused(kind, text[:at + 1] + " " + text[at + 1:], row + 1)
            if text:
                self.refused(kind, text + " ", text.count("\n"))
                self.refused(kind, " " + text, 0)

    def test_a_nought_ahead(self):
        for kind, thing, text in WRITTEN:
            rows = text.split("\n")
            for nth, row in enumerate(rows):
                words = row.split(" ")
                for at, word in enumerate(words):
                    if word.isdigit():
                        for other in ("0" + word, "+" + word, "-" + word, word + ".", word + "x", "00"):
                            changed = " ".join(words[:at] + [other] + words[at + 1:])
                            self.refused(kind, "\n".join(rows[:nth] + [changed] + rows[nth + 1:]), nth)

    def test_sixty_and_sixty_one_figures(self):
        for figures in ("1" + "0" * 59, "9" * 60):
            self.assertEqual(read("steps", f"old {figures} {figures}"), (("old", int(figures), int(figures)),))
            for text in (f"old {figures}0 1", f"own 0 1{figures}", f"old 1 1\nown 0 {figures}9"):
                self.refused("steps", text, text.count("\n"))
            for kind, text in (
                ("rule", f"is a {figures}"), ("rule", f"is a {figures}0"), ("charter", f"charter {figures} 1 1 1\nholder a 1"),
                ("list", f"list 1 {figures}"), ("list", f"list 1 {figures}0"),
            ):
                self.refused(kind, text, 0)

    def test_files(self):
        good = ["file a x", "file b"]
        self.assertEqual(read("build", "\n".join(good)), (("a", ("x",)), ("b", ())))
        bad = [
            "", "file", "fil c", "File c", "filec", "file c 1", "file c X", "file c =x", "file =c", "file c abcdefghi", "file abcdefghi", "old 0 1",
            "file c" + " x" * 41, "file c\tx", "c x",
        ]
        self.rows_refused("build", good, bad)
        for row in bad:
            self.refused("build", row, 0)

    def test_builds_as_a_whole(self):
        self.refused("build", "file b\nfile a", 2)
        self.refused("build", "file a\nfile a", 2)
        self.refused("build", "\n".join("file " + name for name in "abcdefg"), 7)
        self.refused("build", "file a" + " x" * 40 + "\nfile b" + " x" * 19, 2)
        self.assertEqual(len(read("build", "file a" + " x" * 40 + "\nfile b" + " x" * 18)), 2)
        self.assertEqual(len(read("build", "\n".join("file " + name for name in "abcdef"))), 6)
        # A bad row goes ahead of the whole.
        self.refused("build", "file b\nfile a\nfile", 2)
        self.refused("build", "file b\nfile 1\nfile a", 1)

    def test_steps(self):
        good = ["old 0 1", "new a =b", "own 3 4"]
        bad = [
            "", "old", "old 1", "old 1 0", "old -1 1", "old 1 1 1", "old a 1", "own 1 b", "own 0 0", "new", "new A", "new a ==b", "new 1",
            "neu a", "Old 0 1", "old,0,1", "new abcdefghi",
        ]
        self.rows_refused("steps", good, bad)
        for row in bad[1:]:
            self.refused("steps", row, 0)

    def test_rules(self):
        bad = [
            "is", "is a", "is a b c", "is A b", "is a B", "is a 1000", "least a 1000", "least a b", "most a -1", "most a", "not", "not is a",
            "not is a 1 is b 1", "all", "any", "all is a 1", "all is a 1 end end", "end", "is a 1 end", "all not end", "any all end", "all is end",
            "none end", "all" + " is a 1" * 5 + " end", "not not not not all end", "not not not not is a 1", "all any all any is a 1 end end end end",
            "all any all any end end end" + " end end", "is a abcdefghi", "is abcdefghi 1", "All end", "not all end end", "not " * 3000 + "is a 1",
            "all " * 3000 + "end", "is a 1" * 2,
        ]
        for row in bad:
            self.refused("rule", row, 0)
        self.assertEqual(read("rule", "all any all any end end end end"), ("all", ("any", ("all", ("any",)))))

    def test_rules_of_more_than_eight(self):
        # Each part is good, but with more than eight plain ones in all the row, looked at alone, is no rule.
        four = " is a 1" * 4
        eight = [
            f"all any{four} end any{four} end end",
            f"not all all{four} end any{four} end end",
            "any" + (" all" + " all end" * 4 + " end") * 2 + " end",
        ]
        nine = [
            f"all any{four} end any{four} end any end end",
            f"all all{four} end all{four} end not least c 3 end",
            f"not any all{four} end any{four} end all end end",
            "any" + (" all" + " all end" * 3 + " end") * 3 + " end",
            "all" + f" any{four} end" * 4 + " end",
        ]
        for text in eight:
            self.assertEqual(show_rule(read("rule", text)), text)
            self.refused("rule", text + "\n" + text, 2)
            self.assertEqual(show_list(read("list", "list 1 2\nentry a 1 1 1 " + text)), "list 1 2\nentry a 1 1 1 " + text)
        for text in nine:
            self.refused("rule", text, 0)
            self.rows_refused("rule", ["all end", eight[0]], [text])
            self.rows_refused("list", ["list 1 2", "entry b 1 1 1 all end", "entry c 1 1 1 " + eight[0]], ["entry a 1 1 1 " + text])
            # The first bad row goes, whichever way each is bad.
            self.refused("list", "list 1 2\nentry a 1 1 1\nentry b 1 1 1 " + text, 1)
            self.refused("list", "list 0 2\nentry a 1 1 1 " + text, 0)
            self.refused("list", "list 1 2\nentry b 1 1 1 all end\nentry a 1 1 1 " + text, 2)

    def test_drawn_wide_rules(self):
        # Counted as they are made: a row is refused alone just where its rule has more than eight plain ones.
        draw = random.Random(36)
        for counts in [counts for many in range(1, 5) for counts in itertools.product(range(1, 5), repeat=many)]:
            rule = wide_rule(draw, counts)
            text = show_rule(rule)
            if sum(counts) <= 8:
                self.assertEqual(read("rule", text), rule)
                self.assertEqual(read("list", "list 1 2\nentry a 1 1 1 " + text), (1, 2, (("a", 1, 1, 1, rule),)))
            else:
                self.refused("rule", text, 0)
                self.refused("list", "list 1 2\nentry a 1 1 1 " + text, 1)

    def test_rules_as_a_whole(self):
        # A rule is one row.
        self.refused("rule", "all end\nany end", 2)
        self.refused("rule", "all end\nany end\nis a", 2)
        self.refused("rule", "all end\nany end\nis a b", 3)

    def test_charters(self):
        good = ["charter 5 1 2 1", "holder a 1", "holder b 996"]
        self.assertEqual(read("charter", "\n".join(good)), (5, (("a", 1), ("b", 996)), (1, 2, 1)))
        self.rows_refused("charter", good, [
            "", "holder", "holder c", "holder c 0", "holder c 997", "holder c 1 1", "holder C 1", "holder c d", "charter 5 1 2 1", "Holder c 1", "c 1",
        ])
        for row in (
            "charter", "charter 5", "charter 5 1 2", "charter 5 1 2 1 1", "charter 0 1 1 1", "charter 1000 1 1 1", "charter 5 0 1 1", "charter 5 1 7 1",
            "charter 5 1 1 a", "holder a 1", "list 5 1", "Charter 5 1 1 1",
        ):
            self.refused("charter", "\n".join([row] + good[1:]), 0)

    def test_charters_as_a_whole(self):
        holders = "\nholder a 1\nholder b 2"
        # Needs alone go to 6; above how many holders there are the whole is none.
        for needs in ("3 1 1", "1 3 1", "1 1 6"):
            self.refused("charter", f"charter 5 {needs}{holders}", 3)
        self.refused("charter", "charter 5 1 1 1", 1)
        self.refused("charter", "charter 5 1 1 1\nholder b 2\nholder a 1", 3)
        self.refused("charter", "charter 5 1 1 1\nholder a 2\nholder a 2", 3)
        self.refused("charter", "charter 5 1 1 1\n" + "\n".join(f"holder {name} 3" for name in "abcdefg"), 8)
        self.assertEqual(len(read("charter", "charter 5 6 6 6\n" + "\n".join(f"holder {name} 3" for name in "abcdef"))[1]), 6)

    def test_lists(self):
        good = ["list 5 100", "entry a 1 2 3 all end", "entry b 60 0 0 not is a 1"]
        self.assertEqual(read("list", "\n".join(good)), (5, 100, (("a", 1, 2, 3, ("all",)), ("b", 60, 0, 0, ("not", ("is", "a", 1))))))
        self.rows_refused("list", good, [
            "", "entry", "entry c 1 2 3", "entry c 1 2 all end", "entry c 0 2 3 all end", "entry c 61 2 3 all end", "entry c 1 997 3 all end",
            "entry c 1 2 100 all end", "entry C 1 2 3 all end", "entry c 1 2 3 all", "entry c 1 2 3 is a", "entry c 1 2 3 all end end",
            "entry c 1 2 3 is a 1000", "entry c a 2 3 all end", "list 5 100", "all end", "entry c 1 2 3 not not not not all end",
            "entry c 1 2 3 all" + " all end" * 5 + " end", "entri c 1 2 3 all end", "c 1 2 3 all end",
        ])
        for row in ("list", "list 5", "list 5 100 1", "list 0 100", "list 1000 100", "list 5 1000000001", "list a 1", "list 1 a", "charter 1 1 1 1"):
            self.refused("list", "\n".join([row] + good[1:]), 0)

    def test_lists_as_a_whole(self):
        self.refused("list", "list 5 100\nentry b 1 2 3 all end\nentry a 1 2 3 all end", 3)
        self.refused("list", "list 5 100\nentry a 1 2 3 all end\nentry a 1 2 3 all end", 3)
        self.refused("list", "list 5 100\n" + "\n".join(f"entry {name} 1 2 3 all end" for name in "abcdefg"), 8)
        self.assertEqual(len(read("list", "list 5 100\n" + "\n".join(f"entry {name} 1 2 3 all end" for name in "abcdef"))[2]), 6)

    def test_a_text_of_another_kind(self):
        for kind, thing, text in WRITTEN:
            for other in SHOWS:
                if other != kind:
                    if (other, text) != ("steps", ""):
                        self.refused(other, text, 0)

    def test_drawn_texts(self):
        # What is read is such a thing, and is written as the very text.
        words = ["file", "old", "new", "is", "all", "end", "charter", "holder", "list", "entry", "a", "b", "1", "2", "0", "not", "=a", ""]
        many = {}
        for seed in range(30000):
            draw = random.Random(seed)
            text = "".join(draw.choice(words) + draw.choice((" ", " ", " ", "\n")) for nth in range(draw.randrange(1, 9)))[:-1]
            for kind in SHOWS:
                error = refusal(NoText, read, kind, text)
                if error is None:
                    thing = read(kind, text)
                    self.assertTrue(FORMS[kind](thing))
                    self.assertEqual(SHOWS[kind](thing), text)
                    many[kind] = many.get(kind, 0) + 1
                else:
                    self.assertLessEqual(error.row, text.count("\n") + 1)
        self.assertGreater(min(many["build"], many["steps"], many["rule"]), 20)
