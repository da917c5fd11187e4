"""readings.py: plans and lists of deeds from their texts; every other text is unreadable."""

import random
import re
import string
import time
import unittest

from paidinparts.plans import Plan
from paidinparts.ready import payments
from paidinparts.readings import read_plan, read_run
from paidinparts.standings import run_to
from paidinparts.texts import show_plan, show_run
from paidinparts.wishes import broken, unrolled

from tests.tools import all_apart, random_deed, random_parts, raised, shop

MOST = 10**60 - 1
SIGNS = [chr(code) for code in range(ord(" "), ord("~") + 1) if chr(code) != chr(37)]
NAME, INTEGER = "[a-z]{1,8}", "(?:0|-?[1-9][0-9]{0,59})"
ROW, STEP = rf"\[(?:{INTEGER}(?:,{INTEGER})*)?\]", rf"{NAME}\({INTEGER},{INTEGER}\)"
DEED = f"(?:new {NAME} {INTEGER}|step {INTEGER} {NAME})"
PLAN = f"columns(?: {NAME})*(?:; kind {NAME}(?: {ROW})+(?: {STEP})*)*(?:; check {ROW})*"
# Integers that are written so are none.
NO_INTEGERS = ["", "-", "00", "01", "-0", "-01", "+1", "--1", "1-", "1_0", "1.0", "0x1", "1e1", "a", " 1", "1 "]
NO_NAMES = ["", "A", "abcdefghi", "a1", "a-b", "a_b", "[", "0", "-1"]
DEEDS = [("new", "hold", 5), ("step", 0, "hold"), ("step", -12, "a"), ("new", "abcdefgh", 0), ("step", MOST, "step")]


def one_sign_off(text):
    """All texts that differ from a text by one character: one less, one more, another one, or two changed about."""
    for at in range(len(text) + 1):
        yield text[:at] + text[at + 1 :]
        yield text[:at] + text[at + 1 : at + 2] + text[at : at + 1] + text[at + 2 :]
        for sign in SIGNS:
            yield text[:at] + sign + text[at:]
            yield text[:at] + sign + text[at + 1 :]


def is_run_text(text):
    """True if some list of deeds has a text, by its form alone."""
    return re.fullmatch(f"(?:{DEED}(?:; {DEED})*)?", text) is not None


def is_plan_text(text):
    """True if some plan has a text: by its form, and by what would make no plan."""
    if re.fullmatch(PLAN, text) is None:
        return False
    head, *sections = text.split("; ")
    columns = head.split(" ")[1:]
    kinds = [section.split(" ")[1:] for section in sections if section.startswith("kind")]
    wide = all(len(re.findall(INTEGER, row)) == len(columns) for row in re.findall(ROW, text))
    return wide and len(set(columns)) == len(columns) and are_kinds(kinds)


def are_kinds(kinds):
    """True if kinds, each as its name and the texts of its states and steps, stand in some plan."""
    for _, first, *others in kinds:
        size = 1 + len([word for word in others if word.startswith("[")])
        steps = [word[:-1].replace("(", ",").split(",") for word in others if not word.startswith("[")]
        if set(first) & set("123456789"):
            return False
        if not all(int(source) in range(size) and int(target) in range(size) for _, source, target in steps):
            return False
        if len({(name, source) for name, source, _ in steps}) < len(steps):
            return False
    return len({kind[0] for kind in kinds}) == len(kinds)


class Read(unittest.TestCase):
    def check_unreadable(self, read, text):
        self.assertEqual(raised(read, text), ("Unreadable", text))

    def check_text(self, read, show, has_text, text):
        """A text is read if something has it, and what is read has just this text; return whether it is."""
        if has_text(text):
            self.assertEqual(show(read(text)), text)
            return True
        self.check_unreadable(read, text)
        return False

    def check_signs_off(self, read, show, has_text, text):
        """Read a text, and all that are near to it."""
        self.assertTrue(self.check_text(read, show, has_text, text))
        self.assertGreater([self.check_text(read, show, has_text, near) for near in one_sign_off(text)].count(True), 10)


class Deeds(Read):
    def test_deeds(self):
        for many in range(len(DEEDS) + 1):
            self.assertEqual(read_run(show_run(DEEDS[:many])), DEEDS[:many])
        self.assertEqual(read_run("new hold 5; step 0 ask"), [("new", "hold", 5), ("step", 0, "ask")])
        self.assertEqual(read_run("step -1 a; new b -7"), [("step", -1, "a"), ("new", "b", -7)])
        turned = [("new", "new", 0), ("step", 0, "new"), ("step", 1, "step")]
        self.assertEqual(read_run("new new 0; step 0 new; step 1 step"), turned)

    def test_the_empty_text(self):
        self.assertEqual(read_run(""), [])
        self.assertIsNot(read_run(""), read_run(""))

    def test_deeds_are_tuples_in_a_new_list(self):
        text = show_run(DEEDS)
        self.assertEqual({deed.__class__ for deed in read_run(text)}, {tuple})
        self.assertTrue(all_apart(read_run(text), read_run(text)))
        self.assertEqual({type(deed[2]) for deed in read_run(text) if deed[0] == "new"}, {int})

    def test_names(self):
        for name in ["a", "z", "abcdefgh", "new", "step", "columns"]:
            self.assertEqual(read_run(f"new {name} 1; step 1 {name}"), [("new", name, 1), ("step", 1, name)])
        for name in NO_NAMES:
            self.check_unreadable(read_run, f"new {name} 1")
            self.check_unreadable(read_run, f"step 1 {name}")

    def test_integers(self):
        for number in [0, 1, -1, 9, 10, -10, MOST, -MOST, 10**59]:
            deeds = [("new", "a", number), ("step", number, "a")]
            self.assertEqual(read_run(f"new a {number}; step {number} a"), deeds)
        for word in NO_INTEGERS + ["9" * 61, "-" + "1" * 61, "0" * 60 + "1", "1" + "0" * 5000]:
            self.check_unreadable(read_run, f"new a {word}")
            self.check_unreadable(read_run, f"step {word} a")

    def test_other_texts(self):
        for text in [
            " ", ";", "; ", "0", "new", "step", "new a", "step 1", "new a 1 1", "new 1 a", "step a 1", "add a 1",
            "New a 1", "a new 1", "new a 1;", "new a 1; ", "; new a 1", "new a 1 ", " new a 1", "new  a 1",
            "new a  1", "new a 1;step 0 a", "new a 1 ; step 0 a", "new a 1;  step 0 a", "new a 1; ; step 0 a",
            "new a 1, step 0 a", "new a 1: step 0 a", "('new', 'a', 1)", "[]", "columns", "newa 1", "stepp 1 a",
        ]:  # fmt: skip
            self.check_unreadable(read_run, text)

    def test_one_sign_off(self):
        for text in ["new hold 5; step 0 ask", "step -12 a", "new a 10; new b -1"]:
            self.check_signs_off(read_run, show_run, is_run_text, text)
        for sign in SIGNS:
            self.check_unreadable(read_run, sign)

    def test_random_deeds(self):
        chance = random.Random(7)
        for _ in range(300):
            deeds = [random_deed(chance, 5) for _ in range(chance.randint(0, 12))]
            self.assertEqual(read_run(show_run(deeds)), deeds)

    def test_returned_runs(self):
        plan = payments(numbered=False)
        for run in [run_to(plan, "give", 4), unrolled(broken(plan, {"held": 1, "taken": -2}))]:
            self.assertEqual(read_run(show_run(run)), run)

    def test_many_deeds(self):
        begun = time.perf_counter()
        deeds = [("new", "a", 1), ("step", 0, "b")] * 1100
        self.assertEqual(read_run(show_run(deeds)), deeds)
        self.check_unreadable(read_run, show_run(deeds) + ";")
        self.assertLess(time.perf_counter() - begun, 5)

    def test_by_name(self):
        self.assertEqual(read_run(text="new a 1"), [("new", "a", 1)])


class Plans(Read):
    def test_plans(self):
        for plan in [
            shop(), payments(), payments(numbered=False, checked=False), Plan([], [], []), Plan(["a"], [], []),
            Plan([], [("k", [{}], [])], []), Plan([], [("k", [{}, {}], [("go", 0, 1)])], [{}, {}]),
            Plan(["z", "a"], [("k", [{}], [("go", 0, 0)])], [{"a": MOST, "z": -MOST}]),
            shop().without_steps([("hold", "hold")]).with_checks([{"taken": -1}]),
        ]:  # fmt: skip
            self.assertEqual(read_plan(show_plan(plan)), plan)
            self.assertIsInstance(read_plan(show_plan(plan)), Plan)

    def test_what_is_read(self):
        plan = read_plan("columns b a; kind k [0,0] [1,-2] go(0,1) back(1,0); kind l [0,0]; check [3,0]")
        kinds = [("k", [[0, 0], [1, -2]], [("go", 0, 1), ("back", 1, 0)]), ("l", [[0, 0]], [])]
        self.assertEqual([plan.columns, plan.kinds, plan.checks], [["b", "a"], kinds, [[3, 0]]])
        bare = read_plan("columns")
        self.assertEqual([bare.columns, bare.kinds, bare.checks], [[], [], []])
        plan = read_plan("columns; kind k [] [] go(0,1); check []")
        self.assertEqual([plan.columns, plan.kinds, plan.checks], [[], [("k", [[], []], [("go", 0, 1)])], [[]]])
        plan = read_plan("columns kind check; kind columns [0,0] kind(0,0)")
        self.assertEqual([plan.columns, plan.kinds[0][0]], [["kind", "check"], "columns"])

    def test_names(self):
        forms = ["columns b {}", "columns; kind {} []", "columns; kind k [] {}(0,0)"]
        for form in forms:
            for name in ["a", "z", "abcdefgh", "columns", "kind", "check"]:
                self.assertEqual(show_plan(read_plan(form.format(name))), form.format(name))
            for name in NO_NAMES:
                self.check_unreadable(read_plan, form.format(name))

    def test_integers(self):
        forms = ["columns a; kind k [0] [{}]", "columns a b; kind k [0,0] [{},1]", "columns a b; kind k [0,0] [1,{}]"]
        forms += ["columns a; check [{}]", "columns a b; check [{},1]", "columns a b; check [1,{}]"]
        for form in forms:
            for number in [0, 1, -1, 10, -10, MOST, -MOST]:
                self.assertEqual(show_plan(read_plan(form.format(number))), form.format(number))
            for word in NO_INTEGERS + ["9" * 61, "-" + "9" * 61, "0" * 60 + "1", "1" + "0" * 5000]:
                self.check_unreadable(read_plan, form.format(word))

    def test_ends_of_steps(self):
        form = "columns; kind k [] [] [] go({},{})"
        for source in range(3):
            for target in range(3):
                self.assertEqual(read_plan(form.format(source, target)).kinds[0][2], [("go", source, target)])
        for word in NO_INTEGERS + ["3", "-1", "9" * 60, "9" * 61]:
            self.check_unreadable(read_plan, form.format(word, 1))
            self.check_unreadable(read_plan, form.format(1, word))

    def test_what_would_make_no_plan(self):
        for text in [
            "columns a a", "columns a b a", "columns; kind k []; kind k []", "columns; kind k []; kind l []; kind k []",
            "columns; kind k", "columns a; kind k go(0,0)", "columns; kind k go(0,0)", "columns a; kind k [1]",
            "columns a b; kind k [0,-1] [0,0]", "columns; kind k [] go(0,1)", "columns; kind k [] go(1,0)",
            "columns; kind k [] go(0,0) go(0,0)", "columns; kind k [] [] go(0,0) go(0,1)",
            "columns; kind k [] go(-1,0)", "columns; kind k [] go(0,-1)",
        ]:  # fmt: skip
            self.check_unreadable(read_plan, text)
        self.assertEqual(len(read_plan("columns; kind k [] [] go(0,0) go(1,0); kind l [] go(0,0)").kinds), 2)

    def test_rows_of_another_length(self):
        for columns, rows in [
            ("", ["[0]", "[0,0]", "[,]"]), (" a", ["[]", "[0,0]", "[0,]", "[,0]"]), (" a b", ["[]", "[0]", "[0,0,0]"]),
        ]:  # fmt: skip
            for row in rows:
                zeros = "[" + ",".join("0" * len(columns.split())) + "]"
                self.check_unreadable(read_plan, f"columns{columns}; kind k {row}")
                self.check_unreadable(read_plan, f"columns{columns}; kind k {zeros} {row}")
                self.check_unreadable(read_plan, f"columns{columns}; kind k {zeros}; check {row}")
                self.assertEqual(len(read_plan(f"columns{columns}; kind k {zeros}; check {zeros}").checks), 1)

    def test_other_texts(self):
        whole = "columns a; kind k [0] [1] go(0,1); check [1]"
        self.assertEqual(show_plan(read_plan(whole)), whole)
        for text in [
            "", " ", ";", "column a", "Columns a", "columnsa", "a", "columns ", " columns", "columns a ", "columns  a",
            "columns;", "columns; ", "columns; a", "columns; kind", "columns; kind ", "columns; check",
            "columns; check ", "columns; []", "columns; columns", "columns a; columns a", "kind k []; columns",
            "check []; columns", "columns; check []; kind k []", "columns; kind k []; check []; kind l []",
            "columns; check [] []", "columns; check [] go(0,0)", "columns; check a []",
            "columns; kind k [] go(0,0) []", "columns; kind [] k", "columns; kind k l []", "columns; kind k [] go",
            "columns; kind k [] go()", "columns; kind k [] go(0)", "columns; kind k [] go(0,0,0)",
            "columns; kind k [] go(0, 0)", "columns; kind k [] go(0,0", "columns; kind k [] go0,0)",
            "columns; kind k [] go((0,0)", "columns; kind k [] go(0,0))", "columns; kind k [] (0,0)",
            "columns; kind k [", "columns; kind k ]", "columns; kind k [[]", "columns; kind k []]",
            "columns; kind k ()", "columns;kind k []", "columns ; kind k []", "columns;  kind k []",
            "columns: kind k []", "columns; ; kind k []", "columns; kind k [];", "columns; kind k []; ",
            "columns; kindk []", "columns; checks []", whole + " ", whole + ";", whole + "; ", whole + "\n",
            " " + whole, whole.upper(), whole + "; " + whole,
        ]:  # fmt: skip
            self.check_unreadable(read_plan, text)

    def test_one_sign_off(self):
        for text in [
            "columns a b; kind k [0,0] [1,-2] go(0,1); check [1,-1]", "columns; kind k []; kind l [] go(0,0)",
            "columns a; check [10]; check [-1]",
        ]:  # fmt: skip
            self.check_signs_off(read_plan, show_plan, is_plan_text, text)
        for near in one_sign_off("columns"):
            if near != "columns":
                self.check_unreadable(read_plan, near)

    def test_random_plans(self):
        chance = random.Random(8)
        for _ in range(300):
            plan = Plan(*random_parts(chance))
            self.assertEqual(read_plan(show_plan(plan)), plan)

    def test_random_texts(self):
        chance = random.Random(9)
        pieces = ["columns", "kind", "check", "a", "k", "[0]", "[]", "[1]", "go(0,0)", "; ", " ", ";", ",", "0", "]"]
        for _ in range(3000):
            text = "columns" + "".join(chance.choice(pieces) for _ in range(chance.randint(0, 9)))
            self.check_text(read_plan, show_plan, is_plan_text, text)
        found = set()
        pieces = ["kind k [0,0]", "kind k [0,0] [0,0]", "kind l [0,0] [1,-1]", "kind m [0,1]"]
        pieces += ["check [0,7]", "check [-1,1]", "check [1]"]
        ends = ["", "", " go(0,0)", " go(0,1) go(1,0)"]
        for _ in range(3000):
            more = ["; " + chance.choice(pieces) + chance.choice(ends) for _ in range(3)]
            text = "columns a b" + "".join(more[: chance.randint(1, 3)])
            if self.check_text(read_plan, show_plan, is_plan_text, text):
                found.add(text)
        self.assertGreater(len(found), 20)

    def test_by_name(self):
        self.assertEqual(read_plan(text="columns a").columns, ["a"])


class BeyondTheLimits(Read):
    """Sizes beyond the limits of [2] are no reason for an error."""

    def setUp(self):
        self.begun = time.perf_counter()

    def tearDown(self):
        self.assertLess(time.perf_counter() - self.begun, 10)

    def check_long(self, text):
        plan = read_plan(text)
        self.assertEqual(show_plan(plan), text)
        self.assertEqual([plan, plan.without_steps([]), plan.with_checks([])], [plan] * 3)
        self.assertNotEqual(plan.with_checks([{}]), plan)
        self.check_unreadable(read_plan, text + " ")
        return plan

    def names(self, many):
        letters = string.ascii_lowercase
        return [one + two + three for one in letters for two in letters for three in letters][:many]

    def test_columns(self):
        plan = self.check_long("columns " + " ".join(self.names(4000)))
        self.assertEqual(plan.columns, self.names(4000))

    def test_columns_of_states_and_checks(self):
        row = "[" + ",".join(["0"] * 1200) + "]"
        plan = self.check_long("columns " + " ".join(self.names(1200)) + f"; kind k {row} {row} go(0,1); check {row}")
        self.assertEqual(plan.value_at("k", 1, {name: 1 for name in self.names(1200)}), 0)

    def test_kinds(self):
        plan = self.check_long("columns" + "".join(f"; kind {name} []" for name in self.names(1400)))
        self.assertEqual(len(plan.kinds), 1400)

    def test_states_and_steps(self):
        plan = self.check_long("columns; kind k" + " []" * 3000 + "".join(f" go({at},{at})" for at in range(600)))
        self.assertEqual([len(plan.kinds[0][1]), len(plan.kinds[0][2])], [3000, 600])
        plan = self.check_long("columns; kind k [] " + " ".join(f"{name}(0,0)" for name in self.names(2000)))
        self.assertEqual(plan.without_steps([("k", "aaa")]).kinds[0][2][0], ("aab", 0, 0))

    def test_checks(self):
        plan = self.check_long("columns a" + "; check [-12]" * 1500)
        self.assertEqual(plan.checks, [[-12]] * 1500)


if __name__ == "__main__":
    unittest.main()
