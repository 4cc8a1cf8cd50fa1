"""[15.2] and [15.3]: the shell and its commands."""

import random
import unittest

from eitherhand.base.places import calls
from eitherhand.base.promises import Promise
from eitherhand.errors import InvalidOperation, PromiseError
from eitherhand.given.sets import least_facts
from eitherhand.keep.counters import is_counter
from eitherhand.keep.fewest import need
from eitherhand.keep.kept import good_calls, is_kept
from eitherhand.keep.plans import is_plan
from eitherhand.order.leads import leads
from eitherhand.plain.worlds import is_stable, worlds
from eitherhand.play.runs import Play, winner
from eitherhand.text.shell import Shell
from eitherhand.text.texts import read, write
from samples import A, COPY, PICK, all_sorts, equal_ones, varied
from test_limits import FOURS

SINGLE = ("show", "run", "good", "stable", "kept", "need", "plan", "counter", "facts")
WITH_ITEMS = ("keeper 0.1", "caller 1.0", "back 0", "calls keeper", "calls caller", "holds -", "leads a")
# Lines that are no commands, or have other items.
BAD = [
    "", " ", "oops", "oops keeper", "good keeper", "Show", "SHOW", "show ", " show", "show  ", "show show", "show a", "run 1", "good -", "stable yes", "kept a",
    "need 1", "plan a", "counter a", "facts a", "promise", "promise ", "promise  a", "promise a ", "promise a & b", "promise (a&b)",
    "promise A", "Promise a", "promise a a", "keeper", "keeper ", "keeper  0.1", "keeper 0.1 ", "keeper 4", "keeper 0,1", "keeper k0",
    "keeper -", "keeper 0.1 0.1", "keeper 01", "caller", "caller ", "caller x", "caller 1.0.", "Keeper 0.1", "back", "back ", "back 00",
    "back 01", "back 007", "back 1000", "back -1", "back +1", "back 1 ", "back  1", "back 1.0", "back a", "back 0x1", "back 1 1", "calls",
    "calls ", "calls Keeper", "calls all", "calls keeper ", "calls  keeper", "calls keeper caller", "calls 1", "holds", "holds ",
    "holds  -", "holds - ", "holds b a", "holds a a", "holds a  b", "holds A", "holds yes", "holds a,b", "holds - a", "leads", "leads ",
    "leads A", "leads a b", "leads  a", "leads (a & b", "show\n", "promise a\n", "\nshow", "show\nrun", "back 1\n", "keeper\n0.1",
    "keeper\t0.1", "promise " + "(" * 500, "x" * 9000,
]


def played(*lines):
    """A shell behind some lines."""
    shell = Shell()
    shell.run_all(*lines)
    return shell


def begun():
    """A shell in which a promise is played."""
    return played("promise " + COPY.text)


class ShellTest(unittest.TestCase):
    def answers(self, shell, line, answer):
        """Run a line, and check what is changed by it."""
        lines, position = shell.lines, shell.position
        self.assertEqual(shell.run(line), answer, line)
        if answer.startswith("error "):
            self.assertEqual([shell.lines, shell.position], [lines, position])
        else:
            self.assertEqual(shell.lines, (*lines, line))

    def test_without_a_promise(self):
        shell = Shell()
        self.assertEqual([shell.position, shell.lines, len(shell), list(shell), str(shell)],
                         [None, (), 0, [], "0 lines, no promise"])
        for line in (*SINGLE, *WITH_ITEMS):
            self.answers(shell, line, "error InvalidOperation")
        for line in BAD:
            self.answers(shell, line, "error ParseError")
        self.assertEqual(str(shell), "0 lines, no promise")

    def test_wrong_lines_with_a_promise(self):
        shell = begun()
        shell.run("caller 1.0")
        for line in BAD:
            self.answers(shell, line, "error ParseError")
        self.assertEqual(str(shell), "2 lines, ([a + b] | !a)")

    def test_each_command(self):
        shell = begun()
        for line, answer in (
            ("show", COPY.text), ("run", "-"), ("calls keeper", "0.0 0.1"), ("calls caller", "1.0 1.1"), ("good", "-"),
            ("stable", "yes"), ("kept", "yes"), ("need", "1"), ("counter", "error InvalidOperation"), ("holds -", "yes"),
            ("holds a b", "yes"), ("holds c", "error InvalidWorld"), ("leads a", "no"), ("leads yes", "yes"),
            ("leads " + COPY.text, "yes"), ("facts", "-"), ("keeper 1.0", "error InvalidCall"), ("keeper 2", "error InvalidCall"),
            ("keeper 0.3", "error InvalidCall"), ("back 0", COPY.text), ("back 1", "error NothingToUndo"),
            ("caller 1.0", "([a + b] | !a)"), ("caller 1.0", "error InvalidCall"), ("run", "c1.0"), ("holds a", "no"), ("holds b", "yes"),
            ("calls caller", "-"), ("good", "0.0"), ("keeper 0.1", "(b | !a)"), ("run", "c1.0 k0.1"), ("calls keeper", "-"),
            ("kept", "no"), ("need", "11"), ("plan", "error NotKept"), ("counter", "(b | !a): rest a"), ("facts", "none"),
            ("stable", "no"), ("back 3", "error NothingToUndo"), ("back 999", "error NothingToUndo"), ("back 2", COPY.text), ("run", "-"),
            ("promise a", "ok"), ("show", "a"), ("run", "-"), ("counter", "a: rest -"), ("holds a", "yes"), ("holds -", "no"),
            ("holds b", "error InvalidWorld"), ("leads [a + b]", "yes"), ("promise oops it", "error ParseError"), ("show", "a"),
        ):
            self.answers(shell, line, answer)

    def test_worlds_of_the_promise_at_first(self):
        shell = played("promise [a + (b | c)]", "keeper 0")
        self.assertEqual(shell.run_all("holds b", "holds a c", "holds a", "holds -", "show"), ("no", "yes", "yes", "no", "a"))
        shell.run("back 1")
        shell.run("keeper 1")
        self.assertEqual(shell.run_all("holds a", "holds b", "holds d", "holds a b c"), ("no", "yes", "error InvalidWorld", "yes"))
        self.assertEqual(shell.run("leads (c | b)"), "yes")

    def test_a_promise_in_the_midst_of_a_play(self):
        shell = begun()
        shell.run_all("caller 1.0", "promise " + PICK.text)
        self.assertEqual(shell.run_all("show", "run", "back 1", "facts", "kept", "calls keeper"),
                         (PICK.text, "-", "error NothingToUndo", "a", "no", "0 1"))
        self.assertEqual(shell.lines, ("promise " + COPY.text, "caller 1.0", "promise " + PICK.text, "show", "run", "facts",
                                       "kept", "calls keeper"))

    def test_answers_that_look_like_errors(self):
        shell = played("promise ([error + !error] & [fact + !fact])")
        self.answers_kept(shell, "facts", "error fact")
        shell.run("promise error")
        self.answers_kept(shell, "show", "error")
        self.answers_kept(shell, "holds error", "yes")

    def answers_kept(self, shell, line, answer):
        """Run a line that is kept among the lines, whatever its answer looks like."""
        lines = shell.lines
        self.assertEqual(shell.run(line), answer)
        self.assertEqual(shell.lines, (*lines, line))

    def test_facts(self):
        shell = played("promise ([a + !a] | [b + !b])")
        self.assertEqual(shell.run("facts"), "a; b")
        shell.run("promise [[a + !a] * [b + !b]]")
        self.assertEqual(shell.run("facts"), "a b")
        shell.run("caller 1")
        self.assertEqual(shell.run("facts"), "b")

    def test_too_many_and_too_great(self):
        shell = played("promise " + FOURS.text)
        for line in ("kept", "good", "need", "plan", "counter", "facts", "leads yes"):
            self.answers(shell, line, "error TooMany")
        self.assertEqual(shell.run_all("show", "stable", "run"), (FOURS.text, "no" if not is_stable(FOURS) else "yes", "-"))
        for line in ("leads " + FOURS.text, "leads (((((((a & a) & a) & a) & a) & a) & a) & a)"):
            self.answers(shell, line, "error InvalidOperation")

    def test_sessions(self):
        rng = random.Random(101)
        for promise in varied(102, 60, most=4, facts="ab"):
            shell, play = Shell(), Play(promise)
            self.assertEqual(shell.run("promise " + promise.text), "ok")
            for _ in range(12):
                step = rng.choice(("call", "call", "back", *SINGLE, "calls", "holds", "leads"))
                self.step(shell, play, step, rng)
                self.assertEqual(shell.position, play.position)
                self.assertEqual(str(shell), f"{len(shell.lines)} lines, {play.position}")

    def step(self, shell, play, step, rng):
        """One line, and the answer to it by other functions."""
        hand = rng.choice(("keeper", "caller"))
        now = play.position
        if step == "call":
            there = calls(now, hand)
            if there:
                call = rng.choice(there)
                self.answers(shell, f"{hand} {write('call', call)}", play.call(hand, *call).text)
            return
        if step == "back":
            many = rng.randrange(len(play) + 1)
            self.answers(shell, f"back {many}", play.back(many).text)
            return
        world = rng.choice(list(worlds(play.promise)))
        expected = {
            "show": lambda: now.text, "run": lambda: write("run", play.so_far), "stable": lambda: yes(is_stable(now)),
            "good": lambda: " ".join([write("call", call) for call in good_calls(now)]) or "-", "kept": lambda: yes(is_kept(now)),
            "calls": lambda: " ".join([write("call", call) for call in calls(now, hand)]) or "-", "need": lambda: str(need(now)),
            "holds": lambda: yes(winner(play.promise, play.so_far, world) == "keeper"), "leads": lambda: yes(leads(now, PICK)),
            "facts": lambda: "; ".join([write("world", facts) for facts in least_facts(now)]) or "none",
        }
        lines = {"calls": f"calls {hand}", "holds": f"holds {write('world', world)}", "leads": f"leads {PICK}"}
        if step in expected:
            self.answers(shell, lines.get(step, step), expected[step]())
        elif (step == "plan") == is_kept(now):
            self.assertIs((is_plan if step == "plan" else is_counter)(now, read(step, shell.run(step))), True)
        else:
            self.answers(shell, step, "error NotKept" if step == "plan" else "error InvalidOperation")

    def test_back(self):
        shell = begun()
        shell.run_all("caller 1.0", "keeper 0.0")
        for line, answer in (("back 0", "(a | !a)"), ("back 3", "error NothingToUndo"), ("back 1", "([a + b] | !a)"),
                             ("back 2", "error NothingToUndo"), ("back 1", COPY.text), ("back 10", "error NothingToUndo"),
                             ("back 100", "error NothingToUndo")):
            self.answers(shell, line, answer)

    def test_run_all(self):
        self.assertEqual(Shell().run_all(), ())
        shell = begun()
        for lines in (("show", None, "run"), ("caller 1.0", 1), (b"show",), (["show"],), ("oops", ("show",)), (None, "caller 1.0")):
            with self.assertRaises(InvalidOperation):
                shell.run_all(*lines)
            self.assertEqual([shell.position, len(shell)], [COPY, 1])
        self.assertEqual(shell.run_all("caller 1.1", "caller 1.1", "oops", "run"),
                         ("([a + b] | !b)", "error InvalidCall", "error ParseError", "c1.1"))
        for value in all_sorts():
            if not isinstance(value, str):
                for call in (lambda: shell.run(value), lambda: shell.run_all(value), lambda: shell.run_all("back 1", value)):
                    with self.assertRaises(InvalidOperation):
                        call()
            else:
                self.assertEqual(shell.run(value), "error ParseError")
        self.assertEqual(shell.run("run"), "c1.1")

    def test_lines(self):
        shell = begun()
        shell.run_all("oops", "show", "caller 9", "plan", "counter", "show")
        expected = ("promise " + COPY.text, "show", "plan", "show")
        self.assertEqual([shell.lines, list(shell), len(shell)], [expected, list(expected), 4])
        self.assertEqual(str(shell), f"4 lines, {COPY}")
        lines = iter(shell)
        shell.run("show")
        self.assertEqual([list(lines), len(expected)], [list(expected), 4])
        again = Shell()
        again.run_all(*shell.lines)
        self.assertEqual([again.position, again == shell], [shell.position, True])

    def test_equality(self):
        one, two = begun(), begun()
        self.assertEqual([one == two, one != two, Shell() == Shell(), one == Shell()], [True, False, True, False])
        one.run("oops")
        self.assertIs(one == two, True)
        one.run("show")
        self.assertIs(one == two, False)
        for value in all_sorts():
            if not isinstance(value, Shell):
                self.assertEqual([one == value, one != value], [False, True])
        self.assertEqual(equal_ones(played("promise " + PICK.text, "keeper 0")), ["Shell"])
        for name in ("position", "lines"):
            with self.assertRaises(AttributeError):
                setattr(one, name, ())

    def test_what_is_answered_is_one_line(self):
        shell = begun()
        for line in (*SINGLE, *WITH_ITEMS):
            self.assertNotIn("\n", shell.run(line))

    def test_an_error_is_answered_and_not_raised(self):
        shell = played("promise a")
        for line in (*BAD, *SINGLE, *WITH_ITEMS):
            try:
                shell.run(line)
            except PromiseError as error:
                self.fail((line, error))

    def test_leads_asks_of_the_position(self):
        shell = played("promise [a + b]")
        self.assertEqual(shell.run_all("leads a", "keeper 0", "leads a", "leads b"), ("no", "a", "yes", "no"))
        self.assertIs(leads(A, A), True)


def yes(truth):
    """The answer to a question."""
    return "yes" if truth else "no"


if __name__ == "__main__":
    unittest.main()
