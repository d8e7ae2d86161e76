import re
import unittest

from darkdrawers.bounds import MAX_EDITS
from darkdrawers.cabinets import Cabinet, HandCabinet
from darkdrawers.errors import TooFull
from darkdrawers.shells import Shell
from darkdrawers.values import Heap
from tests import brute
from tests.model import Model, check_all, check_now, undo_both
from tests.samples import FULL, STRANGE_VALUES, D, Dice, W, shape, small_cases

UNKNOWN = "unknown command"
NUMBER = "(0|[1-9][0-9]{0,6})"
NUMBERS = f"{NUMBER}(,{NUMBER})*"

# Lines that are no commands of a cabinet with two kinds.
NO_COMMANDS = [
    "", " ", "  ", "\n", "for", "ok", "help", "quit", "exit", "error", "none", "cabinets",
    "put", "put ", "put 0", "put 0 1", "put 0 1 ", "put 0 1 1 ", "put 0 1 1 1", "put  0 1 1",
    "put 0  1 1", "put 0 1  1", " put 0 1 1", "put 0 1 1\n", "\nput 0 1 1", "put\n0 1 1", "put\t0 1 1",
    "Put 0 1 1", "PUT 0 1 1", "put 0,1,1", "put 0, 1, 1", "put(0,1,1)", "put 0 1 x", "put x 1 1",
    "put 00 1 1", "put 0 01 1", "put 0 1 01", "put 0 1 00", "put +0 1 1", "put 0 +1 1", "put 0 1 +1",
    "put -1 1 1", "put 0 -1 1", "put 0 1 -1", "put 0 1 -0", "put 0 1 1.0", "put 0 1 1e0",
    "put 0 1 10000000", "put 10000000 1 1", "put 0 10000000 1", "put 0 1 0000001", "put 0 1 1_0",
    "put 0 1 " + "1" * 1900, "put 0 1 ''", "put None None None", "put True 1 1", "put 0 1 one",
    "remove", "remove 0 1", "remove 0 1 1 1", "remove 0 1 1 ", "remove 0 1 01", "Remove 0 1 1",
    "remove  0 1 1", "remove 0 1 -1", "remove 0 1 10000000", "remove 0,1 1 1",
    "wish", "wish ", "wish 1", "wish 1,1,1", "wish 0,0", "wish 51,0", "wish 0,51", "wish 1,1 1,1",
    "wish 1 1", "wish 1, 1", "wish 1,1 ", " wish 1,1", "wish  1,1", "wish 01,1", "wish 1,01",
    "wish +1,1", "wish 1,-1", "wish -1,1", "wish ,1", "wish 1,", "wish 1,,1", "wish ,", "wish x",
    "wish 1,x", "wish (1,1)", "wish 1,1\n", "Wish 1,1", "WISH 1,1", "wish 1000000,1", "wish 1;1",
    "wish 10000000,1", "wish 1,1 for", "wish for",
    "drop", "drop ", "drop 0 0", "drop 0 ", "drop  0", " drop 0", "drop 00", "drop 01", "drop +0",
    "drop -0", "drop -1", "drop x", "drop 10000000", "drop 0,0", "Drop 0", "drop\n0", "drop 0\n",
    "undo ", " undo", "undo 1", "undo 0", "undo undo", "Undo", "UNDO", "undo\n", "und", "undoo",
    "cabinet ", " cabinet", "cabinet 0", "Cabinet", "CABINET", "cabinet\n", "cabine",
    "sure ", " sure", "sure 0", "Sure", "SURE", "sure\n", "sur", "sures",
    "plan", "plan ", "plan 2 1", "plan 2, 1", "plan 2,1 ", " plan 2,1", "plan  2,1", "plan 02,1",
    "plan 2,01", "plan +2,1", "plan 2,-1", "plan ,", "plan 2,", "plan ,1", "plan 2,,1", "plan x",
    "plan 2,x", "plan (2,1)", "plan 2,1 2,1", "Plan 2,1", "plan 10000000,1", "plan 2,10000000",
    "plan 2,1\n", "plan 2;1", "plan None", "2,1 1,3 for 1,1",
    "state", "edits", "walk", "certificate 2,1", "attempt", "read 7 for 3", "len", "free 3", "most",
    "MOST_EDITS", "stock", "collections", "__init__", "change 0 0 0", "do_edit 0",
]


def expected_answer(model, line):
    """What the shell answers; the model does the edit, too."""
    stock, collections = model.state()
    if line == "cabinet":
        drawers, wished = ([",".join(map(str, row)) for row in rows] for rows in (stock, collections))
        return " ".join([*drawers, "for", *wished])
    if line == "sure":
        return str(model.sure()).lower()
    if line == "undo":
        if not model.done:
            return "error NothingToUndo"
        model.done.pop()
        return f"ok {len(model.done)}"
    if re.fullmatch(f"plan {NUMBERS}", line):
        plan = tuple(map(int, line[5:].split(",")))
        if len(plan) != len(stock) or any(n > sum(drawer) for n, drawer in zip(plan, stock)):
            return "error BadPlan"
        return "draw" if brute.unlucky_draws(stock, collections, plan) else "table"
    edit = expected_edit(line, len(stock[0]))
    if edit is None:
        return UNKNOWN
    wrong = model.error(edit)
    if wrong is not None:
        return f"error {type(wrong).__name__}"
    model.done.append(edit)
    return f"ok {len(model.done)}"


def expected_edit(line, kinds):
    """The edit that the line tells, or None."""
    if re.fullmatch(f"(put|remove)( {NUMBER}){{3}}|drop {NUMBER}", line):
        name, *words = line.split()
        return (name, *map(int, words))
    if re.fullmatch(f"wish {NUMBERS}", line):
        wished = tuple(map(int, line[5:].split(",")))
        if len(wished) == kinds and 0 < max(wished) <= 50:
            return ("wish", wished)
    return None


class ShellTest(unittest.TestCase):
    def setUp(self):
        self.model = Model(D, W)
        self.cabinet = self.model.new()
        self.shell = Shell(self.cabinet)

    def check(self, *lines):
        """Tests the answers against the model and the state after them."""
        for line in lines:
            answer = self.shell.execute(line)
            self.assertEqual(shape(answer), shape(expected_answer(self.model, line)), line)
            check_now(self, self.cabinet, self.model)

    def answers(self, *lines):
        return [self.shell.execute(line) for line in lines]

    def use(self, model):
        self.model = model
        self.cabinet = model.new()
        self.shell = Shell(self.cabinet)

    def test_examples(self):
        self.assertEqual(
            self.answers("sure", "plan 2,1", "plan 2,2", "plan 9,9", "remove 0 1 2", "wish 3,0", "put 0 1"),
            ["5", "draw", "table", "error BadPlan", "error TooFew", "ok 1", "unknown command"])
        self.assertEqual(Shell(Cabinet(((7,),), ((3,),))).execute("cabinet"), "7 for 3")

    def test_each_command(self):
        self.assertEqual(
            self.answers("put 0 1 2", "remove 1 1 3", "wish 3,0", "drop 0", "cabinet", "sure", "undo",
                         "undo", "undo", "undo", "undo", "cabinet", "sure"),
            ["ok 1", "ok 2", "ok 3", "ok 4", "2,3 1,0 for 3,0", "6", "ok 3",
             "ok 2", "ok 1", "ok 0", "error NothingToUndo", "2,1 1,3 for 1,1", "5"])
        check_all(self, self.cabinet, self.model)

    def test_the_arguments_come_in_order(self):
        self.use(Model(((5, 5, 5), (5, 5, 5)), ((1, 1, 1),)))
        self.check("put 0 1 2", "put 1 0 3", "remove 1 2 4", "remove 0 2 1", "cabinet", "wish 1,2,3",
                   "wish 0,50,0", "wish 0,0,1", "cabinet", "drop 1", "drop 2", "cabinet", "undo", "cabinet")

    def test_sure(self):
        self.assertEqual(Shell(Cabinet(D, ((9, 9),))).execute("sure"), "none")
        self.assertEqual(Shell(Cabinet(FULL, ((1, 1, 1, 1),))).execute("sure"), "601")
        self.check("sure", "remove 0 0 2", "remove 1 0 1", "sure", "undo", "sure", "put 1 1 47", "sure")

    def test_cabinet(self):
        for stock, collections in small_cases()[::7] + [(FULL, FULL)]:
            self.use(Model(stock, collections))
            self.check("cabinet")
            self.assertEqual(Cabinet.read(self.shell.execute("cabinet")).state(), (stock, collections))

    def test_plan(self):
        for line, answer in [
            ("plan 0,0", "draw"), ("plan 3,0", "table"), ("plan 3,4", "table"), ("plan 0,4", "table"),
            ("plan 2,1", "draw"), ("plan 4,0", "error BadPlan"), ("plan 0,5", "error BadPlan"),
            ("plan 2", "error BadPlan"), ("plan 0", "error BadPlan"), ("plan 1,1,1", "error BadPlan"),
            ("plan 0,0,0,0,0,0", "error BadPlan"), ("plan 9999999,0", "error BadPlan"),
            ("plan 1000000,1000000", "error BadPlan"), ("plan 1,10000000", UNKNOWN),
        ]:
            with self.subTest(line=line):
                self.assertEqual(self.shell.execute(line), answer)
        check_all(self, self.cabinet, self.model)
        self.use(Model(((7,),), ((3,),)))
        self.check("plan 2", "plan 3", "plan 8", "plan 3,0", "plan 0")

    def test_all_plans_of_small_cabinets(self):
        for stock, collections in small_cases()[::9]:
            self.use(Model(stock, collections))
            for plan in brute.plans_of(stock):
                self.check("plan " + ",".join(map(str, plan)))

    def test_the_present_state_counts_for_plans_and_wishes(self):
        self.check("plan 3,0", "put 0 0 5", "plan 8,0", "plan 9,0", "undo", "plan 8,0")

    def test_the_errors_of_the_cabinet(self):
        for line, answer in [
            ("put 2 0 1", "error NoDrawer"), ("put 9999999 0 1", "error NoDrawer"),
            ("put 0 2 1", "error NoKind"), ("put 0 9999999 1", "error NoKind"),
            ("put 0 0 0", "error BadCount"), ("put 0 0 51", "error BadCount"),
            ("put 0 0 9999999", "error BadCount"), ("put 0 0 49", "error TooMuch"),
            ("put 2 2 51", "error NoDrawer"), ("put 0 2 51", "error NoKind"),
            ("remove 2 0 1", "error NoDrawer"), ("remove 0 2 1", "error NoKind"),
            ("remove 0 0 0", "error BadCount"), ("remove 0 0 51", "error BadCount"),
            ("remove 0 0 3", "error TooFew"), ("drop 0", "error LastCollection"),
            ("drop 1", "error NoCollection"), ("drop 9999999", "error NoCollection"),
            ("undo", "error NothingToUndo"), ("plan 9,9", "error BadPlan"),
        ]:
            with self.subTest(line=line):
                self.assertEqual(self.shell.execute(line), answer)
                check_now(self, self.cabinet, self.model)
        self.assertEqual(self.answers("wish 1,1", "wish 0,1", "wish 1,0", "wish 2,2", "wish 0,0"),
                         ["ok 1", "ok 2", "ok 3", "error TooManyCollections", UNKNOWN])

    def test_too_many_edits(self):
        for number in range(MAX_EDITS):
            self.check(["put 0 0 1", "remove 0 0 1"][number % 2])
        for line in ["put 0 0 1", "remove 0 0 1", "wish 1,1", "drop 0", "put 9 9 99", "drop 7"]:
            self.assertEqual(self.shell.execute(line), "error TooManyEdits")
        self.assertEqual(self.answers("wish 0,0", "plan 2,2", "sure", "undo"), [UNKNOWN, "table", "5", "ok 59"])

    def test_busy(self):
        seen = []

        def watch(cabinet):
            seen.append(self.answers("put 0 0 1", "remove 0 0 1", "wish 1,1", "drop 0", "undo", "put 9 9 99",
                                     "sure", "cabinet", "plan 2,2", "plan 9,9", "put 0 0"))

        self.assertEqual(self.cabinet.attempt([("put", 0, 1, 1)], watch=watch), 1)
        self.assertEqual(seen, [["error Busy"] * 6 + ["6", "2,2 1,3 for 1,1", "draw", "error BadPlan", UNKNOWN]])
        self.assertEqual(self.shell.execute("undo"), "ok 0")

    def test_numbers_of_seven_and_eight_digits(self):
        for number, answer in [("999999", "error NoDrawer"), ("1000000", "error NoDrawer"),
                               ("9999999", "error NoDrawer"), ("10000000", UNKNOWN), ("99999999", UNKNOWN),
                               ("0000000", UNKNOWN), ("0000001", UNKNOWN), ("00000001", UNKNOWN)]:
            self.assertEqual(self.shell.execute(f"put {number} 0 1"), answer)
            self.assertEqual(self.shell.execute(f"remove {number} 0 1"), answer)
            plan = "error BadPlan" if answer != UNKNOWN else UNKNOWN
            self.assertEqual(self.shell.execute(f"plan {number},0"), plan)
            self.assertEqual(self.shell.execute(f"plan 0,{number}"), plan)
            self.assertEqual(self.shell.execute(f"wish {number},1"), UNKNOWN)
            drop = "error NoCollection" if answer != UNKNOWN else UNKNOWN
            self.assertEqual(self.shell.execute(f"drop {number}"), drop)

    def test_lines_that_are_no_commands(self):
        for line in NO_COMMANDS:
            with self.subTest(line=line[:50]):
                self.assertEqual(self.shell.execute(line), UNKNOWN)
                check_now(self, self.cabinet, self.model)

    def test_digits_of_other_scripts(self):
        for digit in ["\u0661", "\u00b2", "\uff11"]:
            self.assertEqual(self.answers(f"put 0 0 {digit}", f"drop {digit}", f"plan {digit},1",
                                          f"wish {digit},1"), [UNKNOWN] * 4)

    def test_values_that_are_not_texts(self):
        others = [("undo",), ["sure"], b"sure", {"sure": 1}, ("put", 0, 0, 1), ["put", "0", "0", "1"], Heap((1,)),
                  self.cabinet, self.shell, 5, 0]
        for value in STRANGE_VALUES + others:
            with self.subTest(value=value):
                self.assertEqual(self.shell.execute(value), UNKNOWN)
        check_all(self, self.cabinet, self.model)

    def test_wishes_are_for_the_kinds_of_the_cabinet(self):
        for kinds in range(1, 5):
            self.use(Model(((3,) * kinds,), ((1,) * kinds,)))
            for many in range(7):
                for number in (0, 1, 50, 51):
                    self.check("wish " + ",".join([str(number)] * many))

    def test_it_works_on_this_very_cabinet(self):
        self.shell.execute("put 0 0 1")
        self.assertEqual(self.cabinet.edits(), (("put", 0, 0, 1),))
        self.cabinet.wish((3, 0))
        self.assertEqual(self.shell.execute("cabinet"), "3,1 1,3 for 1,1 3,0")
        other = Shell(self.cabinet)
        self.assertEqual([other.execute("drop 0"), self.shell.execute("cabinet")], ["ok 3", "3,1 1,3 for 3,0"])
        self.cabinet.undo()
        self.assertEqual([self.shell.execute("undo"), other.execute("undo"), other.execute("undo")],
                         ["ok 1", "ok 0", "error NothingToUndo"])

    def test_shells_of_two_cabinets(self):
        other = Shell(Cabinet(D, W))
        self.assertEqual([self.shell.execute("put 0 0 1"), other.execute("undo"), other.execute("cabinet")],
                         ["ok 1", "error NothingToUndo", "2,1 1,3 for 1,1"])

    def test_the_shell_of_a_hand_cabinet(self):
        cabinet = HandCabinet(D, W, 5)
        shell = Shell(cabinet)
        self.assertEqual(
            [shell.execute(line) for line in
             ["sure", "put 0 1 1", "put 0 1 49", "put 0 1 50", "put 0 0 1", "undo", "remove 0 0 2", "remove 1 0 1",
              "remove 1 0 2", "wish 0,4", "remove 1 0 1", "drop 1", "drop 2", "cabinet", "sure", "plan 1,1"]],
            ["5", "error TooFull", "error TooFull", "error TooMuch", "ok 1", "ok 0", "ok 1", "error TooFull",
             "error TooFew", "ok 2", "ok 3", "error TooFull", "error NoCollection", "0,1 0,3 for 1,1 0,4", "4", "draw"])
        self.assertEqual([len(cabinet), cabinet.most], [3, 5])
        with self.assertRaises(TooFull):
            cabinet.drop(1)

    def test_thrown_lines(self):
        dice = Dice(107)
        words = ["put", "remove", "wish", "drop", "undo", "cabinet", "sure", "plan", "0", "1", "2", "3", "51",
                 "01", "1,1", "2,0", "0,0", "1,1,1", "", "-1", "10000000"]
        for most in (None, 6, 9):
            self.use(Model(D, ((1, 1), (0, 3)), most))
            for _ in range(1500):
                line = " ".join(words[dice.throw(20)] for _ in range(1 + dice.throw(3)))
                self.check(line)
            while self.model.done:
                undo_both(self, self.cabinet, self.model)
            check_all(self, self.cabinet, self.model)

    def test_thrown_commands(self):
        dice = Dice(109)
        for most in (None, 8):
            self.use(Model(D, ((1, 1), (0, 3)), most))
            for _ in range(400):
                numbers = [dice.throw(3) for _ in range(4)]
                self.check([
                    "put {0} {1} {2}", "remove {0} {1} {2}", "wish {0},{1}", "drop {0}", "undo", "sure",
                    "cabinet", "plan {0},{1}", "put 0 {1} {2}", "undo", "remove 1 {1} {2}",
                ][dice.throw(10)].format(*numbers))
            check_all(self, self.cabinet, self.model)


if __name__ == "__main__":
    unittest.main()
