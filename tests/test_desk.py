"""Point 37: each row of a desk with its answer, against a house and machines beside it, and each refusal in its order."""

import random
import unittest

from farbuilds.builds import row_of
from farbuilds.desk import Desk
from farbuilds.errors import (
    Known, NoBuild, NoHolder, NoLetter, NoMachine, NoOrder, NoRoll, NoRow, NotYet, NoText, Off, Taken, Unmarked,
)
from farbuilds.house import House
from farbuilds.machine import Machine
from farbuilds.texts import show_build, show_charter, show_list
from tests.helpers import shown, things
from tests.houses import GRADES, graded
from tests.makers import ANY, BUILDS, CHARTER, HOLDERS, TAGS, marks_by

CHARTER_TEXT = show_charter(CHARTER)
HOUSE = "house 30 ann bob cy\n" + CHARTER_TEXT
TEXTS = {name: f"{tag[0]} {tag[1]} {tag[2]}" for name, tag in TAGS.items()}


def build_row(name):
    return f"build {name} {GRADES[name]}\n{show_build(BUILDS[name])}"


def list_row(number=1, **named):
    return "list\n" + show_list(graded(number, **named))


def charter_row(number, holders=HOLDERS, needs=(2, 2, 2)):
    return "charter\n" + show_charter((number, holders, needs))


def said(*rows, desk=None):
    """A desk to which rows were said."""
    desk = desk or Desk()
    for row in rows:
        desk.say(row)
    return desk


def begun(*rows):
    """A desk with a house, all builds and a list."""
    return said(HOUSE, *[build_row(name) for name in BUILDS], list_row(), *rows)


class Checked(unittest.TestCase):
    def tells(self, desk, *pairs):
        for row, answer in pairs:
            told = desk.say(row)
            self.assertEqual(told, answer, row)
            self.assertIs(type(told), str)

    def refused(self, desk, error, row, field=None, worth=None):
        """A row is refused, and changes nothing."""
        before = shown(desk)
        with self.assertRaises(error) as caught:
            desk.say(row)
        self.assertIs(type(caught.exception), error, row)
        self.assertEqual(shown(desk), before)
        if field is not None:
            self.assertEqual(shown(getattr(caught.exception, field)), shown(worth))

    def no_row(self, desk, row):
        self.refused(desk, NoRow, row, "row", row)


class Answers(Checked):
    def test_a_whole_way(self):
        web = [item for item in row_of(BUILDS["web"])]
        self.assertEqual(len(web), 6)
        self.tells(
            Desk(), (HOUSE, "ok"), (build_row("app"), "ok"), (build_row("web"), "ok"), ("machine far 9 0 - app os linux disk 5", "ok"),
            ("machine near 10 1 far app", "ok"), (list_row(names=("app", "web")), "ok"), ("roll web 1,5,0", "ok"), ("at 3", "ok"),
            ("letters far", "0 list, 1 items"), ("letters near", "2 list"), ("take 0", "taken"), ("take 1 4", "cut"), ("runs far", "off"),
            ("start far", TEXTS["app"]), ("report far", "3"), ("hear 3", "taken"), ("hear 3", "old"), ("letters far", "4 items"),
            ("take 4", "taken"), ("take 4", "place"), ("report far", "5"), ("hear 5", "taken"), ("letters far", "6 permit"),
            ("letters far", "7 permit"), ("end web", "33"), ("end app", "none"), ("can far", f"{TEXTS['app']}, {TEXTS['web']}"),
            ("ever far", f"{TEXTS['app']}, {TEXTS['web']}"), ("ever near", TEXTS["app"]), ("sure", f"near {TEXTS['app']}"),
            ("take 7", "taken"), ("take 6", "old"), ("well far", "no"), ("start far 0", "cut"), ("start far 1", TEXTS["web"]), ("runs far", TEXTS["web"]),
            ("well far", "yes"), ("well far 0", "no"), ("report far", "8"), ("at 5", "ok"), ("hear 8", "taken"), ("letters near", "9 list"),
            ("at 9", "ok"), ("letters near", "10 list"), ("at 10", "ok"), ("letters near", "11 list, 12 items"), ("stop", "ok"),
            ("letters near", "13 list"), ("off far", "ok"), ("runs far", "off"), ("sure", f"far {TEXTS['web']}, near {TEXTS['app']}"),
            ("letters far", "none"), ("take 2", "taken"), ("take 2", "known"),
        )

    def test_sure_of_none(self):
        self.tells(begun(), ("sure", "none"))

    def test_well_is_cut(self):
        desk = begun("machine far 9 0 - app", "roll web", "letters far", "take 0", "take 1", "report far", "hear 2", "letters far", "take 3", "start far")
        self.tells(desk, ("well far 0", "cut"), ("runs far", "off"), ("start far", TEXTS["web"]), ("well far 1", "yes"), ("runs far", TEXTS["web"]))

    def test_charters(self):
        others = (("ann", 5), ("dan", 50), ("eve", 51))
        desk = begun("machine far 9 0 - app")
        self.tells(desk, (charter_row(4, others), "ok"), (charter_row(5, others[1:], (2, 2, 1)), "ok"), ("letters far", "0 charter, 1 charter, 2 list"))
        # The list came by holders of the first charter; those of the last one mark another one.
        self.tells(desk, ("take 0", "taken"), ("take 1", "taken"), ("take 2", "unmarked"), (list_row(2), "ok"), ("report far", "3"), ("hear 3", "taken"))
        self.tells(desk, ("letters far", "4 list"), ("take 4", "taken"))
        # A machine made by then has the last charter.
        self.tells(desk, ("machine new 9 0 - app", "ok"), ("letters new", "5 list"), ("take 5", "taken"))

    def test_bounds_that_are_let(self):
        self.tells(
            Desk(), ("house 1 ann\n" + CHARTER_TEXT, "ok"), ("house 1000 cy ann bob\n" + CHARTER_TEXT, "ok"), ("build app 99\n" + show_build(BUILDS["app"]), "ok"),
            ("build abcdefgh 0\n" + show_build(BUILDS["web"]), "ok"), ("machine ma 1 0 - app", "ok"), ("machine mb 996 3 ma app", "ok"),
            ("machine mc 5 0 - app " + " ".join(f"{chr(97 + n)} {999 - n}" for n in range(16)), "ok"), ("machine md 5 0 - app a zzzzzzzz b 0", "ok"),
            ("at 0", "ok"), ("at 999999999", "ok"), ("at 999999999", "ok"), ("report ma", "0"), ("hear 0", "taken"),
            ("start ma 999999999", TEXTS["app"]), ("end none", "none"),
        )

    def test_six_holders(self):
        holders = tuple((name, nth + 1) for nth, name in enumerate("abcdef"))
        text = show_charter((1, holders, (6, 6, 6)))
        self.tells(Desk(), ("house 5 f e d c b a\n" + text, "ok"), ("house 5 a b c d e f\n" + text, "ok"))
        self.no_row(Desk(), "house 5 a b c d e f g\n" + text)

    def test_gates(self):
        for gates, opens in (("", True), (" 1,0,0", False), (" 0,0,0", True), (" 0,999,999 999,0,0 0,0,0", True), (" 999,999,999", False)):
            desk = begun("machine far 9 1 - app", "roll web" + gates)
            self.tells(desk, ("letters far", "0 list, 1 items" if opens else "0 list"))

    def test_facts(self):
        for facts, wanted in (("os linux", True), ("os mac", False), ("", False), ("disk 5", True), ("disk 4", False), ("disk linux", False)):
            rule = ("any", ("is", "os", "linux"), ("least", "disk", 5))
            desk = said(HOUSE, *[build_row(name) for name in BUILDS], list_row(rule=rule), f"machine far 9 0 - app {facts}".strip(), "roll web")
            self.tells(desk, ("letters far", "0 list, 1 items" if wanted else "0 list"))

    def test_two_desks_do_not_know_of_each_other(self):
        one, other = begun("machine far 9 0 - app", "at 7"), begun()
        self.refused(other, NoMachine, "runs far", "name", "far")
        self.tells(other, ("at 2", "ok"), ("machine far 8 0 - web", "ok"), ("runs far", TEXTS["web"]))
        self.tells(one, ("runs far", TEXTS["app"]), ("report far", "0"))
        self.refused(other, NoLetter, "hear 0", "number", 0)

    def test_house_anew_begins_all_anew(self):
        desk = begun("machine far 9 0 - app", "at 7", "roll web", "letters far")
        self.tells(desk, (HOUSE, "ok"))
        self.assertEqual(shown(desk), shown(said(HOUSE)))
        self.refused(desk, NoMachine, "runs far", "name", "far")
        self.refused(desk, NoLetter, "take 0", "number", 0)
        self.refused(desk, NoRoll, "stop")
        self.tells(desk, ("at 1", "ok"), (build_row("app"), "ok"), ("sure", "none"))

    def test_a_refused_house_leaves_the_one_that_is(self):
        desk = begun("machine far 9 0 - app", "at 7")
        self.refused(desk, NoText, "house 30 ann\ncharter 1 1 1 1", "row", 1)
        self.refused(desk, NoHolder, "house 30 ann eve\n" + CHARTER_TEXT, "name", "eve")
        self.no_row(desk, "house 0 ann\n" + CHARTER_TEXT)
        self.tells(desk, ("runs far", TEXTS["app"]))


class NoRows(Checked):
    BAD = [
        "", " ", "\n", "none", "House", "hello far", "stop ", " stop", "stop stop", "stop 1", "stop\n", "sure far", "sure\n", "sure ", "at", "at ", "at x",
        "at -1", "at 01", "at 00", "at 1000000000", "at 10000000000", "at 1 1", "at 1\n", "at  1", "at 1.5", "at one", "letters", "letters ", "letters FAR",
        "letters far far", "letters far\n", "letters  far", "letters -", "letters abcdefghi", "take", "take far", "take -1", "take 1 2 3", "take 01",
        "take 1 x", "take 1 -1", "take 1000000000", "take 1 1000000000", "take 1 01", "take 1\n", "take 1 ", "start", "start 1", "start far x",
        "start far 01", "start far 1 1", "start far\n", "start far ", "well", "well far x", "well far 1 1", "well 1", "off", "off far 1", "off 1", "report",
        "report far 1", "report 1", "hear", "hear far", "hear 1 1", "hear 01", "hear -1", "hear 1000000000", "hear 1\n", "runs", "runs far 1", "runs 1", "can",
        "can far 1", "ever", "ever far 1", "end", "end 1", "end web web", "roll", "roll 1", "roll WEB", "roll web 1", "roll web 1,1", "roll web 1,1,1,1",
        "roll web 1,1,01", "roll web 1,,1", "roll web 1000,1,1", "roll web 1,1000,1", "roll web 1,1,1000", "roll web 1,1,x", "roll web 1,1,1 ",
        "roll web 1, 1,1", "roll web -1,1,1", "roll web 1,1,1 1,1,1 1,1,1 1,1,1", "roll web 1,1,1\n", "roll web ,,", "machine", "machine far",
        "machine far 9", "machine far 9 0", "machine far 9 0 -", "machine FAR 9 0 - app", "machine far 0 0 - app", "machine far 997 0 - app",
        "machine far 9 4 - app", "machine far 9 -1 - app", "machine far 9 0 -- app", "machine far 9 0 1 app", "machine far 9 0 - -", "machine far 9 0 - 1",
        "machine far 9 0 - app disk", "machine far 9 0 - app disk 5 os", "machine far 9 0 - app disk 5 disk 6", "machine far 9 0 - app disk 1000",
        "machine far 9 0 - app disk -5", "machine far 9 0 - app disk 05", "machine far 9 0 - app 5 5", "machine far 9 0 - app disk X", "machine far 9 0 - app ",
        "machine far 9 0 - app\n", "machine far x 0 - app", "machine far 09 0 - app", "machine far 9 00 - app", "machine far 9 0 - app disk 5 disk 5",
        "machine far 9 0 - app " + " ".join(f"a{chr(97 + n)} 1" for n in range(17)), "build app 1", "charter", "list", "house 30 ann",
    ]
    BAD_WITH_TEXT = [
        "build", "build ", "build app", "build app x", "build app 100", "build app -1", "build app 01", "build APP 1", "build app 1 1", "build  app 1",
        "build app 1 ", " build app 1", "charter ", "charter 1", " charter", "list ", "list 1", "Charter", "house", "house 30", "house 30 ", "house ann",
        "house 0 ann", "house 1001 ann", "house 030 ann", "house 30 ANN", "house 30 1", "house 30 ann ", "house  30 ann", "house 30 a b c d e f g",
        "house 30 ann ann", "stop", "at 5", "machine far 9 0 - app", "roll web", "sure", "letters far", "none", "",
    ]

    def test_what_is_no_row(self):
        for desk in (Desk(), begun("machine far 9 0 - app", "roll web", "letters far", "report far")):
            for row in self.BAD:
                self.no_row(desk, row)
            for row in self.BAD_WITH_TEXT:
                for text in (CHARTER_TEXT, show_build(BUILDS["app"]), ""):
                    self.no_row(desk, row + "\n" + text)

    def test_of_anything(self):
        for desk in (Desk(), begun()):
            for thing in things():
                self.no_row(desk, thing)
            for row in (["stop"], ("stop",), {"stop": 1}, [HOUSE]):
                self.no_row(desk, row)

    def test_a_moment_that_falls(self):
        desk = begun("at 5")
        for row in ("at 4", "at 0"):
            self.no_row(desk, row)
        self.tells(desk, ("at 5", "ok"), ("at 6", "ok"))
        self.no_row(desk, "at 5")


class Order(Checked):
    def test_no_row_ahead_of_not_yet(self):
        desk = Desk()
        for row in (
            "stop", "at 5", "sure", "letters far", "take 0", "take 0 1", "start far", "well far 2", "off far", "report far", "hear 0", "runs far", "can far",
            "ever far", "end web", "roll web", "roll web 1,1,1", "machine far 9 0 - app", build_row("app"), list_row(), charter_row(4),
            "build app 1\nno text", "charter\n", "list\nno",
        ):
            self.refused(desk, NotYet, row)
        self.refused(desk, NoText, "house 30 ann\nno", "row", 0)
        self.refused(desk, NoText, "house 30 eve\n" + CHARTER_TEXT + "\n", "row", 4)
        self.refused(desk, NoHolder, "house 30 bob eve dan\n" + CHARTER_TEXT, "name", "eve")
        self.tells(desk, (HOUSE, "ok"))

    def test_no_text(self):
        desk = begun()
        # A text goes ahead of a name that is taken, of a list that is known, of a charter that isn't let.
        for row, at in (
            ("build app 1\n", 0), ("build app 1\nfile a\nfile", 1), ("build more 1\nfile b\nfile a", 2), ("charter\n", 0), ("charter\ncharter 9 1 1 1", 1),
            ("charter\ncharter 4 1 1 1\nholder a 0", 1), ("list\n", 0), ("list\nlist 1", 0), ("list\nlist 1 100\n", 1), ("list\nlist 9 9\nentry app 4 26 1 all", 1),
            ("build more 1\nfile a\n", 1), ("charter\n" + show_list(graded(2)), 0),
            ("list\nlist 9 9\nentry app 4 26 1 all" + " all is a 1 is a 2 is a 3 end" * 3 + " end\nentry web 1 1 1 all end", 1),
        ):
            self.refused(desk, NoText, row, "row", at)

    def test_no_letter(self):
        desk = begun("machine far 9 0 - app", "roll web")
        self.refused(desk, NoLetter, "take 0", "number", 0)
        self.refused(desk, NoLetter, "hear 0", "number", 0)
        self.tells(desk, ("letters far", "0 list, 1 items"), ("report far", "2"), ("off far", "ok"))
        for row, number in (("take 2", 2), ("take 3", 3), ("take 999999999", 999999999), ("hear 0", 0), ("hear 1", 1), ("hear 3", 3), ("take 2 1", 2)):
            # Ahead of what the machine refuses, being off.
            self.refused(desk, NoLetter, row, "number", number)
        self.refused(desk, Off, "take 0")
        self.refused(desk, Off, "take 1 1")
        self.tells(desk, ("hear 2", "old"))

    def test_no_machine(self):
        desk = begun("machine far 9 0 - app", "off far")
        for row in ("letters", "start", "well", "off", "report", "runs", "can", "ever"):
            self.refused(desk, NoMachine, row + " near", "name", "near")
            self.refused(desk, NoMachine, row + " app", "name", "app")
        for row in ("start near 1", "well near 0"):
            self.refused(desk, NoMachine, row, "name", "near")

    def test_off(self):
        desk = begun("machine far 9 0 - app", "off far")
        for row in ("well far", "well far 1", "report far"):
            self.refused(desk, Off, row)
        self.tells(desk, ("runs far", "off"), ("start far", TEXTS["app"]), ("report far", "0"))

    def test_what_the_house_refuses(self):
        desk = begun("machine far 9 0 - app")
        self.refused(desk, Taken, build_row("app"), "name", "app")
        self.refused(desk, Known, list_row(1), "number", 1)
        self.refused(desk, NoBuild, f"list\nlist 2 100\nentry {TEXTS['app']} 1 all end\nentry none 4 26 1 all end", "name", "none")
        self.refused(desk, NoBuild, f"list\nlist 2 100\nentry {TEXTS['app']} 2 all end", "name", "app")
        for number in (3, 5):
            self.refused(desk, Unmarked, charter_row(number))
        self.refused(desk, NoBuild, "roll none", "name", "none")
        self.refused(desk, NoRoll, "stop")
        self.tells(desk, ("roll web", "ok"), ("stop", "ok"))
        self.refused(desk, NoRoll, "stop")

    def test_what_is_refused_of_a_machine(self):
        desk = begun("machine far 9 0 - app")
        self.refused(desk, NoBuild, "machine far 9 0 none none", "name", "none")
        self.refused(desk, Taken, "machine far 9 0 none new", "name", "far")
        self.refused(desk, NoMachine, "machine near 9 0 none new", "name", "none")
        self.refused(desk, NoMachine, "machine near 9 0 near app", "name", "near")
        self.refused(desk, NoOrder, "machine near 9 0 far web", "name", "far")
        self.refused(desk, NoMachine, "runs near", "name", "near")
        self.tells(desk, ("machine near 9 0 far old", "ok"))

    def test_unmarked_list_can_not_be(self):
        # All holders of the last charter mark, so that a list is never unmarked, nor a charter but by its number.
        desk = begun(charter_row(4, (("zoe", 1),), (1, 1, 1)))
        self.tells(desk, (list_row(2), "ok"), (charter_row(5, HOLDERS, (3, 3, 3)), "ok"), (list_row(3), "ok"))


class Beside:
    """A house and machines beside a desk, called as its rows say; answers are put into words here."""

    def __init__(self):
        self.house = House(CHARTER, HOLDERS[:2], span=9)
        self.machines, self.post, self.moment, self.number, self.charter = {}, [], 0, 0, CHARTER
        for name in BUILDS:
            self.house.add_build(name, BUILDS[name], grade=GRADES[name])

    def text(self, tag):
        return " ".join(map(str, tag))

    def do(self, word, *values):
        return getattr(self, "do_" + word)(*values)

    def do_at(self, moment):
        self.moment = moment
        return "ok"

    def do_list(self, told):
        self.house.publish(told, marks_by(self.charter[1], "list", told))
        return "ok"

    def do_charter(self, charter):
        self.house.new_charter(charter, marks_by(self.charter[1] + charter[1], "charter", charter))
        self.charter = charter
        return "ok"

    def do_roll(self, name, *gates):
        self.house.roll(name, self.moment, gates=gates)
        return "ok"

    def do_stop(self):
        self.house.stop(self.moment)
        return "ok"

    def do_machine(self, name, key, ring, behind, title, facts):
        if title not in BUILDS:
            raise NoBuild(title)
        machine = Machine(name, key, facts, self.charter, title, BUILDS[title])
        self.house.add_machine(name, key, facts, ring, machine.report(self.moment), behind=behind)
        self.machines[name] = machine
        return "ok"

    def do_letters(self, name):
        letters = self.house.letters(name, self.moment)
        first = len(self.post)
        self.post += [(name, letter) for letter in letters]
        return ", ".join(f"{first + nth} {letter[0]}" for nth, letter in enumerate(letters)) or "none"

    def machine(self, name):
        if name not in self.machines:
            raise NoMachine(name)
        return self.machines[name]

    def do_take(self, number, writes=None):
        if number >= len(self.post) or self.post[number][1][0] == "report":
            raise NoLetter(number)
        name, letter = self.post[number]
        return self.machines[name].take(letter, self.moment, writes=writes) or "cut"

    def do_start(self, name, writes=None):
        tag = self.machine(name).start(self.moment, writes=writes)
        return "cut" if tag is None else self.text(tag)

    def do_well(self, name, writes=None):
        return {True: "yes", False: "no", None: "cut"}[self.machine(name).well(writes=writes)]

    def do_off(self, name):
        self.machine(name).off()
        return "ok"

    def do_report(self, name):
        self.post.append((name, self.machine(name).report(self.moment)))
        return str(len(self.post) - 1)

    def do_hear(self, number):
        if number >= len(self.post) or self.post[number][1][0] != "report":
            raise NoLetter(number)
        return self.house.hear(self.post[number][1], self.moment)

    def do_runs(self, name):
        tag = self.machine(name).runs()
        return "off" if tag is None else self.text(tag)

    def do_can(self, name):
        return ", ".join(map(self.text, self.house.can_run(name, self.moment)))

    def do_ever(self, name):
        return ", ".join(map(self.text, self.house.can_ever(name, self.moment)))

    def do_sure(self):
        return ", ".join(f"{name} {self.text(tag)}" for name, tag in self.house.sure(self.moment)) or "none"

    def do_end(self, name):
        end = self.house.last_end(name)
        return "none" if end is None else str(end)


class Drawn(Checked):
    def test_against_calls_beside_it(self):
        words = {}
        for seed in range(120):
            draw = random.Random(seed)
            desk, beside = said("house 9 ann bob\n" + CHARTER_TEXT, *map(build_row, BUILDS)), Beside()
            for time in range(120):
                row, word, values = drawn_row(draw, beside)
                one, other = answer(lambda: desk.say(row)), answer(lambda: beside.do(word, *values))
                self.assertEqual(one, other, (seed, row))
                words[one[0] if isinstance(one, tuple) else word] = words.get(one[0] if isinstance(one, tuple) else word, 0) + 1
            self.assertEqual(desk.machines, beside.machines)
            # Marks may stand in any order.
            logs = [[thing[:2] for thing in house.log().things()] for house in (desk.house, beside.house)]
            self.assertEqual(logs[0], logs[1])
        for word in (
            "at", "list", "charter", "roll", "stop", "machine", "letters", "take", "start", "well", "off", "report", "hear", "runs", "can", "ever", "sure",
            "end", "Off", "NoLetter", "NoMachine", "Taken", "NoRoll", "NoBuild", "NoOrder",
        ):
            self.assertGreater(words.get(word, 0), 10, words)


def answer(call):
    """What is told, or the name and fields of a refusal."""
    try:
        return call()
    except (ValueError, LookupError, RuntimeError, ArithmeticError) as refused:
        return (type(refused).__name__, shown(vars(refused)))


def drawn_row(draw, beside):
    """A row with its first word and values, most of them such as lead on."""
    names = list(beside.machines) or ["ma"]
    name = draw.choice(names) if draw.random() < 0.95 else "none"
    number = draw.choice([nth for nth in range(len(beside.post))][-6:] or [0]) if draw.random() < 0.9 else draw.randrange(99)
    writes = draw.choice(((), (), (), (0,), (1,), (3,)))
    word = draw.choice(
        ["at", "list", "charter", "roll", "roll", "stop", "machine", "machine", "off", "runs", "can", "ever", "sure", "end"]
        + ["letters"] * 6 + ["take"] * 10 + ["start"] * 4 + ["well"] * 4 + ["report"] * 5 + ["hear"] * 5,
    )
    if word in ("off", "runs", "can", "ever", "letters", "report"):
        return f"{word} {name}", word, (name,)
    if word in ("start", "well"):
        return " ".join([word, name, *map(str, writes)]), word, (name, *writes)
    if word == "take":
        return " ".join([word, str(number), *map(str, writes)]), word, (number, *writes)
    if word == "hear":
        reports = [nth for nth, (to, letter) in enumerate(beside.post) if letter[0] == "report"][-3:]
        number = draw.choice(reports) if reports and draw.random() < 0.9 else number
        return f"hear {number}", word, (number,)
    if word == "at":
        moment = beside.moment + draw.choice((0, 1, 4))
        return f"at {moment}", word, (moment,)
    if word == "list":
        beside.number += draw.choice((0, 1, 1, 1))
        told = graded(max(1, beside.number), beside.moment + draw.choice((3, 200)), rule=draw.choice((ANY, ("least", "disk", 2))))
        return "list\n" + show_list(told), word, (told,)
    if word == "charter":
        charter = (beside.charter[0] + draw.choice((0, 1, 1)), HOLDERS[:2] + (("cy", draw.choice((11, 12))),), (2, 2, 2))
        return "charter\n" + show_charter(charter), word, (charter,)
    return drawn_deed(draw, beside, word)


def drawn_deed(draw, beside, word):
    title = draw.choice(list(BUILDS)) if draw.random() < 0.9 else "none"
    if word == "roll":
        gates = tuple((draw.choice((0, 1)), draw.choice((0, 3)), draw.choice((0, 9))) for nth in range(draw.choice((0, 0, 1, 3))))
        return " ".join(["roll", title, *[",".join(map(str, gate)) for gate in gates]]), word, (title, *gates)
    if word == "machine":
        name = draw.choice(("ma", "mb", "mc", "md"))
        front = draw.choice((None, None, "ma", "mb", "mc"))
        facts = {"disk": draw.randrange(4)} if draw.random() < 0.8 else {}
        key, ring = draw.randrange(1, 997), draw.randrange(4)
        parts = ["machine", name, key, ring, front or "-", title] + [part for pair in facts.items() for part in pair]
        return " ".join(map(str, parts)), word, (name, key, ring, front, title, facts)
    if word == "end":
        return f"end {title}", word, (title,)
    return word, word, ()
