"""What the document promises over the whole program: [0.2] to [0.6], and what holds between the modules."""

import itertools
import random
import unittest

from eitherhand.base.places import called, calls, calls_to, positions
from eitherhand.base.promises import Promise
from eitherhand.errors import NotKept
from eitherhand.given.asking import Asker, asking_paper, is_asking_paper, is_kept_asking, questions
from eitherhand.given.books import book_paper, follows, is_book_paper, needed, without_any
from eitherhand.given.sets import (
    greatest_sets, is_kept_alone, is_kept_in, is_kept_knowing, is_knowing_paper, is_set_paper, least_facts,
)
from eitherhand.keep.counters import Counter, counter_for
from eitherhand.keep.fewest import most_table, need, sparing_plan
from eitherhand.keep.kept import Keeper, good_calls, is_kept, is_kept_paper, kept_paper, kept_positions, may_wait, plan_for
from eitherhand.keep.plans import Plan
from eitherhand.order.leads import Order, are_alike, is_order_paper, leads, order_paper
from eitherhand.order.shapes import join, meet, spread, tidied
from eitherhand.plain.worlds import worlds
from eitherhand.play.runs import Play, played
from eitherhand.text.shell import Shell
from eitherhand.text.texts import read, write
from eitherhand.use.project import Project
from samples import A, COPY, HALF, PICK, TEXTS, TWICE, made, varied
import reference

SURE = Promise.sure()
SOME = [PICK, COPY, HALF, TWICE, *[Promise.read(text) for text in TEXTS], *varied(121, 120, most=4), *varied(122, 30, most=3, facts="abc")]
SOME = [one for one in SOME if one.depth < 8 and len(reference.game(one.text)) <= 120]


class WholeTest(unittest.TestCase):
    def test_a_promise_is_kept_in_the_same_cases_everywhere(self):
        found = {True: 0, False: 0}
        for promise in SOME:
            expected = promise.text in reference.kept(promise.text)
            found[expected] += 1
            shell = Shell()
            shell.run("promise " + promise.text)
            answers = [
                is_kept(promise), is_kept_in(promise, tuple(worlds(promise))), leads(SURE, promise), follows((SURE,), promise),
                need(promise) < 11, is_kept_asking(promise, 0), is_kept_knowing(promise, ()), kept_paper(promise)[0] == "plan",
                promise.text in kept_positions(promise), questions(promise) == 0, least_facts(promise) == ((),),
                greatest_sets(promise) == (tuple(worlds(promise)),), shell.run("kept") == "yes", shell.run("plan") != "error NotKept",
                shell.run("counter") == "error InvalidOperation", Project({"a": promise}).does_hold(("kept", "a")),
                not Project({"a": promise}).does_hold(("barred", "a")), Project({"a": promise}).does_hold(("need", "a", 10)),
                self.is_made(Keeper, promise), self.is_made(Asker, promise, 0),
                without_any((A,), promise) == (True,), is_kept(tidied(promise)), leads(-promise, Promise.never()),
                book_paper((SURE,), promise)[0] == "follows", order_paper(SURE, promise)[0] == "leads",
                asking_paper(promise, 0)[0] == "plan", may_wait(promise) or good_calls(promise) != (),
            ]
            self.assertEqual(set(answers), {expected}, promise.text)
        self.assertGreater(min(found.values()), 30)

    def is_made(self, kind, *told):
        """Whether an object can be made of a promise that has to be kept."""
        try:
            kind(*told)
        except NotKept:
            return False
        return True

    def test_a_plan_and_a_counter_are_papers_of_all_kinds(self):
        for promise in SOME:
            every = tuple(worlds(promise))
            word, table = kept_paper(promise)
            asked = {(text, (), 0): told for text, told in table.items()}
            if word == "plan":
                papers = [(is_set_paper, (promise, every), ("kept", table)), (is_set_paper, (promise, ()), ("kept", table)),
                          (is_knowing_paper, (promise, ()), ("kept", {(): table})), (is_asking_paper, (promise, 0), ("plan", asked)),
                          (is_knowing_paper, (promise, promise.facts),
                           ("kept", {told: table for told in reference.sets_of(promise.facts)})),
                          (is_kept_paper, (promise,), ("plan", sparing_plan(promise)))]
            else:
                papers = [(is_set_paper, (promise, every), ("barred", table)), (is_asking_paper, (promise, 0), ("counter", asked)),
                          (is_knowing_paper, (promise, ()), ("barred", (), table)),
                          (is_kept_paper, (promise,), ("counter", counter_for(promise)))]
            for judge, told, paper in papers:
                self.assertIs(judge(*told, paper), True)
            # A paper of a bridge from `yes` is one of a book of `yes`.
            paper = order_paper(SURE, promise)
            self.assertIs(is_order_paper(SURE, promise, paper), True)
            self.assertIs(is_book_paper((SURE,), promise, ("follows" if word == "plan" else "not", paper[1])), True)

    def test_the_order_of_a_passed_dict_has_no_effect(self):
        rng = random.Random(123)
        for promise in SOME[::2]:
            word, table = asking_paper(promise, 2)
            keys = list(table)
            rng.shuffle(keys)
            self.assertIs(is_asking_paper(promise, 2, (word, {key: table[key] for key in keys})), True)
            word, table = kept_paper(promise)
            keys = list(table)
            rng.shuffle(keys)
            shuffled = {key: table[key] for key in keys}
            kind = Plan if word == "plan" else Counter
            self.assertEqual(list(kind(promise, shuffled)), sorted(table))
            self.assertEqual(write(word, shuffled), write(word, table))
            self.assertEqual(read(word, write(word, shuffled)), table)
        self.assertEqual(list(Project({"b": A, "a": A}).promises), ["a", "b"])

    def test_a_run_comes_to_the_same_position_however_it_is_played(self):
        rng = random.Random(124)
        for promise in SOME:
            play, project, shell, plain = Play(promise), Project({"one": promise}), Shell(), promise
            shell.run("promise " + promise.text)
            while not play.is_over():
                hand, place, index = rng.choice(play.moves("keeper") + play.moves("caller"))
                plain = called(plain, (place, index))
                play.call(hand, place, index)
                project.call("one", place, index)
                answer = shell.run(f"{hand} {write('call', (place, index))}")
                self.assertEqual([play.position, project.promises["one"], shell.position, answer], [plain, plain, plain, plain.text])
            self.assertEqual(played(promise, play.so_far), plain)
            self.assertEqual([shell.run("run"), len(project.log)], [write("run", play.so_far), len(play)])
            self.assertIn(plain.text, positions(promise))
            self.assertEqual(played(promise, calls_to(promise, plain.text)), plain)
            project.undo(many=len(play))
            self.assertEqual([project.promises["one"], shell.run(f"back {len(play)}")], [promise, promise.text])

    def test_keepers_and_askers_play_to_the_same_ends(self):
        rng = random.Random(125)
        for promise in [one for one in SOME if is_kept(one)]:
            keeper, asker, play = Keeper(promise), Asker(promise, 0), Play(promise)
            while calls(asker.position, "caller"):
                call = rng.choice(calls(asker.position, "caller"))
                asker.hear(*call)
                while asker.wish() is not None:
                    self.assertIn(asker.wish(), good_calls(asker.position))
                    asker.go()
                self.assertIs(is_kept(asker.position), True)
            while calls(keeper.position, "caller"):
                keeper.hear(*rng.choice(calls(keeper.position, "caller")))
                keeper.settle()
            for move in keeper.so_far:
                play.call(*move)
            self.assertEqual(play.position, keeper.position)

    def test_iteration_only_where_it_is_told(self):
        yielded = [type(one).__name__ for one in made() if self.is_iterable(one)]
        self.assertEqual(yielded, ["Surface", "Plain", "Play", "Plan", "Keeper", "Counter", "Order", "Book", "Project", "Shell"])
        self.assertIs(self.is_iterable(A), True)
        for one in made():
            if self.is_iterable(one):
                self.assertEqual([len(list(one)), list(one)], [len(one), list(one)])

    def is_iterable(self, one):
        """Whether an object can be iterated over."""
        try:
            list(one)
        except TypeError:
            return False
        return True

    def test_equality_of_all_objects(self):
        for (at, one), (to, other) in itertools.product(enumerate(made()), repeat=2):
            self.assertIs(one == other, at == to)
            self.assertIs(one != other, at != to)
        for one in made():
            for value in (None, 0, "", (), [], {}, A, str(one), Promise.never()):
                self.assertEqual([one == value, value == one, one != value], [False, False, True])

    def test_what_is_returned_shares_no_state(self):
        for call in (
            lambda: asking_paper(PICK, 1)[1], lambda: order_paper(COPY, COPY)[1], lambda: most_table(COPY, 1),
            lambda: Project({"a": A}).promises, lambda: read("plan", "a: wait"), lambda: plan_for(COPY),
        ):
            first = call()
            again = dict(first)
            first.clear()
            self.assertEqual(call(), again)
        project = Project({"a": A})
        project.promises.clear()
        self.assertEqual(project.promises, {"a": A})

    def test_main_statements(self):
        small = [Promise.read(text) for text in ("a", "!a", "b", "[a + b]", "[a * b]", "(a & b)", "yes", "no", "[a + !a]")]
        for one, other in itertools.product(small, repeat=2):
            if leads(one, other):
                for third in small[:6]:
                    self.assertIs(leads(one & third, other & third), True)
                    self.assertIs(leads(one + third, other + third), True)
                    self.assertIs(leads(one | third, other | third), True)
                    self.assertIs(leads(one * third, other * third), True)
                if is_kept(one):
                    self.assertIs(is_kept(other), True)
        for promise in SOME:
            self.assertIs(is_kept(promise) and is_kept(-promise), False)
            if is_kept(promise):
                if len(promise) < 20:
                    self.assertIs(is_kept(join(promise, A)), True)
                if promise.kind == "mine" and len(promise.parts) < 4:
                    self.assertIs(is_kept(Promise.of("mine", (*promise.parts, A))), True)
                if promise.kind == "yours" and len(promise.parts) > 2:
                    self.assertIs(is_kept(Promise.of("yours", promise.parts[1:])), True)
                self.assertIs(is_kept_alone(promise), True)
        self.assertIs(are_alike(A & (PICK + COPY), spread(A & (PICK + COPY), (), 1)), True)
        self.assertEqual(Order(SURE, Promise.read("(a | !a)"), COPY, PICK).classes, ((0, 1, 2), (3,)))

    def test_what_may_not_be_relied_on(self):
        self.assertEqual([is_kept_alone(PICK), is_kept(PICK), is_kept(-PICK)], [True, False, False])
        kept = Promise.read("([a + b] | [!a * !b])")
        wide = Promise.read("(a | !a)")
        put = wide.put("a", Promise.read("[a * b]"))
        self.assertEqual([is_kept(kept), is_kept(wide), is_kept(put)], [True, True, True])
        # A fact of a kept promise, exchanged for a promise, can need to be gone by twice.
        twice = Promise.read("(!a | (a & a))")
        self.assertEqual([is_kept(twice), is_kept(twice.put("a", Promise.read("[b * c]")))], [True, False])
        b, c = Promise.fact("b"), Promise.fact("c")
        self.assertEqual([leads(meet(A & b, A & c), A & meet(b, c)), leads(A & meet(b, c), meet(A & b, A & c))], [False, True])

    def test_needs_of_books(self):
        once = Promise.read("[b * c]")
        self.assertEqual([needed((once, once), once & once), needed((once, A), once), needed((A, A), A)], [(0, 1), (0,), ()])


if __name__ == "__main__":
    unittest.main()
