"""[16.1] to [16.4]: promises kept by asking, papers that show it, and the class `Asker`."""

import itertools
import random
import unittest

from eitherhand.base.places import board_of, called, calls
from eitherhand.base.promises import Promise
from eitherhand.errors import (
    InvalidCall, InvalidNumber, InvalidOperation, InvalidPromise, NotKept, TooMany, UnknownFact,
)
from eitherhand.given import asking as module
from eitherhand.given.asking import (
    Asker, asking_paper, good_questions, is_asking_paper, is_kept_asking, questions,
)
from eitherhand.given.sets import is_kept_knowing, least_facts
from eitherhand.given.states import Asking, asking_table
from eitherhand.keep.kept import is_kept
from samples import A, COPY, HALF, PICK, TEXTS, TWICE, all_sorts, equal_ones, no_promises, varied
import reference

LATER = Promise.read("[[a + !a] * [b + !b]]")
BOTH = Promise.read("([a + !a] & [b + !b])")
SOME = [
    PICK, COPY, HALF, TWICE, LATER, BOTH, A, Promise.sure(), Promise.never(), Promise.read("[a * b]"),
    *[Promise.read(text) for text in (
        "[[a + !a] * [[b + !b] * yes]]", "([a + !a] | [b + !b])", "[(a & b) + !a + (a & !b)]", "[[a + b] * [!a + b]]",
        "[[a + !a] * [(b & a) + (!b | !a)]]", "([a + !a] & [[b + !b] * [a + !a]])", "[(a | [b + !b]) * (!a & a)]",
        "([[a + !a] * [b + !b]] | [[b + c] * c])", "[[(a & b) + (a & !b) + !a] * [b + !b]]")],
    *varied(81, 90, most=3), *varied(82, 30, most=3, facts="abc"),
]
SOME = [one for one in SOME if len(reference.game(one.text)) <= 60]
SMALL = [one for one in SOME if len(reference.game(one.text)) <= 16 and len(one.facts) <= 2]


def is_right(promise, most, paper):
    """Whether a paper of proper entries is right, by another reading than the program's own."""
    word, table = paper
    inquiry = reference.Inquiry(promise.text)
    return inquiry.is_plan(table, most) if word == "plan" else inquiry.is_counter(table, most)


class KeptAskingTest(unittest.TestCase):
    def test_by_another_reading(self):
        found = {}
        for promise in SOME:
            inquiry = reference.Inquiry(promise.text)
            kept = [inquiry.kept(promise.text, (), most) for most in range(4)]
            for most, expected in enumerate(kept):
                self.assertIs(is_kept_asking(promise, most), expected)
                good = tuple(
                    fact for fact in promise.facts
                    if most and all(inquiry.kept(promise.text, ((fact, truth),), most - 1) for truth in (True, False))
                )
                self.assertEqual(good_questions(promise, most), good)
            least = kept.index(True) if True in kept else None
            self.assertEqual(questions(promise), least)
            found[least] = found.get(least, 0) + 1
        self.assertEqual(set(found), {None, 0, 1, 2})
        self.assertGreater(min(found.values()), 2)

    def test_what_is_said_of_it(self):
        for promise in SOME:
            kept = [is_kept_asking(promise, most) for most in range(7)]
            self.assertEqual(kept, sorted(kept))
            self.assertIs(kept[0], is_kept(promise))
            self.assertIs(kept[6], is_kept_knowing(promise, promise.facts))
            least = questions(promise)
            self.assertEqual(least is None, least_facts(promise) == ())
            if least is not None:
                self.assertLessEqual(least, min(len(facts) for facts in least_facts(promise)))

    def test_given_ones(self):
        self.assertEqual([questions(BOTH), questions(LATER), questions(A), questions(COPY)], [2, 1, None, 0])
        self.assertEqual([good_questions(BOTH, 2), good_questions(BOTH, 1), good_questions(PICK, 0), good_questions(COPY, 3)],
                         [("a", "b"), (), (), ("a", "b")])
        self.assertEqual([good_questions(Promise.sure(), 3), good_questions(A, 3)], [(), ()])
        six = Promise.read("(([a + !a] & [b + !b] & [c + !c]) & [d + !d] & [e + !e] & [f + !f])")
        self.assertEqual([questions(six), is_kept_asking(six, 5), is_kept_asking(six, 6)], [6, False, True])
        self.assertEqual([good_questions(six, 6), good_questions(six, 5)], [tuple("abcdef"), ()])
        one = Promise.read("[[a + !a] * [b + !b] * [c + !c] * [d + !d]]")
        self.assertEqual([questions(one), least_facts(one), good_questions(one, 1)], [1, (tuple("abcd"),), ()])
        self.assertEqual(good_questions(one, 2), tuple("abcd"))

    def test_numbers(self):
        for call in (is_kept_asking, asking_paper, good_questions, lambda *told: is_asking_paper(*told, None), Asker):
            for value in [*all_sorts(), -1, 7, True, False, 10 ** 60]:
                if type(value) is int and 0 <= value <= 6:
                    continue
                with self.assertRaises(InvalidNumber) as caught:
                    call(COPY, value)
                self.assertEqual(caught.exception.number, value)
                self.assertIs(type(caught.exception.number), type(value))
            for value in no_promises():
                for most in (0, 7, None):
                    with self.assertRaises(InvalidPromise):
                        call(value, most)
            call(COPY, 0)
            call(COPY, 6)
        for value in no_promises():
            with self.assertRaises(InvalidPromise):
                questions(value)


class PaperTest(unittest.TestCase):
    def test_papers_told(self):
        for promise in SOME:
            for most in (0, 1, 2, 4):
                word, table = asking_paper(promise, most)
                self.assertEqual(word, "plan" if is_kept_asking(promise, most) else "counter")
                self.assertTrue(is_right(promise, most, (word, table)))
                self.assertIs(is_asking_paper(promise, most, (word, table)), True)
                self.assertEqual(list(table), sorted(table))
                self.assertIs(is_asking_paper(promise, most, ("counter" if word == "plan" else "plan", table)), False)
                for bad in ([word, table], (word,), (word, table, most), table, (word, list(table)), (word, {}), (None, table),
                            ("leads", table)):
                    self.assertIs(is_asking_paper(promise, most, bad), False)

    def test_a_key_too_few_or_too_many(self):
        rng = random.Random(83)
        judged = {True: 0, False: 0}
        for promise in SOME:
            for most in (0, 1, 2):
                word, table = asking_paper(promise, most)
                for key in table:
                    less = {one: told for one, told in table.items() if one != key}
                    expected = is_right(promise, most, (word, less))
                    judged[expected] += 1
                    self.assertIs(is_asking_paper(promise, most, (word, less)), expected)
                for key in self.states(promise, rng):
                    for told in self.entries(promise, word, key):
                        more = {**table, key: told}
                        expected = is_right(promise, most, (word, more))
                        judged[expected] += 1
                        self.assertIs(is_asking_paper(promise, most, (word, more)), expected)
        self.assertGreater(min(judged.values()), 100)

    def states(self, promise, rng):
        """Some states."""
        found = []
        for _ in range(4):
            asked = sorted(rng.sample(promise.facts, rng.randrange(len(promise.facts) + 1)))
            known = tuple((fact, rng.random() < 0.5) for fact in asked)
            found.append((rng.choice(sorted(reference.game(promise.text))), known, rng.randrange(3)))
        return found

    def entries(self, promise, word, key):
        """What can be told at a state, rightly or wrongly."""
        hand = "keeper" if word == "plan" else "caller"
        there = [call for call, _ in reference.ways(promise.text, key[0], hand)]
        if word == "plan":
            return [None, *there, *promise.facts, "zz"]
        return [*[("call", *call) for call in there], *[("rest", world) for world in reference.worlds(promise)]]

    def test_keys_that_are_no_states(self):
        word, table = asking_paper(PICK, 1)
        told = {"a": None}
        for key in (
            (PICK.text, (), 7), (PICK.text, (), -1), (PICK.text, (("a", 1),), 0), (PICK.text, (("a", 0),), 0),
            ("a", (("b", True),), 0), ("a", (("a", True), ("a", True)), 0), ("a", (("a", False), ("a", True)), 0),
            ("[a]", (), 0), ("b", (), 0), ("", (), 0), ("a", None, 0), ("a", ("a", True), 0), ("a", (("a",),), 0),
            ("a", ((True, "a"),), 0), ("a", (), None), ("a", ()), ("a", (), 0, 0), "a", None, 0, (), ("a", (("a", True, 0),), 0),
            (None, (), 0), ("a", (("a", None),), 0), ("a", ("at",), 0),
        ):
            self.assertIs(is_asking_paper(PICK, 1, (word, {**table, key: told.get(key, None)})), False)
        two = Promise.read("([a + !a] | [b + !b])")
        word, table = asking_paper(two, 1)
        for known in ((("b", True), ("a", True)), (("a", True), ("b", True), ("a", True)), (("a", True), ("a", False))):
            self.assertIs(is_asking_paper(two, 1, (word, {**table, ("(a | b)", known, 0): ((), 0)})), False)
        # `True` for 1 and the other way round, where the keys are equal otherwise.
        plan = {(PICK.text, (), True): "a", (PICK.text, (("a", True),), 0): ((), 0), ("a", (("a", True),), 0): None,
                (PICK.text, (("a", False),), 0): ((), 1), ("!a", (("a", False),), 0): None}
        self.assertIs(is_asking_paper(PICK, 1, ("plan", plan)), False)
        plan = {(PICK.text, (), 1): "a", (PICK.text, (("a", 1),), 0): ((), 0), ("a", (("a", True),), 0): None,
                (PICK.text, (("a", False),), 0): ((), 1), ("!a", (("a", False),), 0): None}
        self.assertIs(is_asking_paper(PICK, 1, ("plan", plan)), False)
        plan = {(PICK.text, (), 1): "a", (PICK.text, (("a", True),), False): ((), 0), ("a", (("a", True),), 0): None,
                (PICK.text, (("a", False),), 0): ((), 1), ("!a", (("a", False),), 0): None}
        self.assertIs(is_asking_paper(PICK, 1, ("plan", plan)), False)

    def test_entries_that_are_none(self):
        word, table = asking_paper(PICK, 1)
        self.assertEqual(table[(PICK.text, (), 1)], "a")
        answered = (PICK.text, (("a", True),), 0)
        for told in ("b", "", True, 0, (), ("a",), ["a"], ((), 1), ((), True), ((), 2), [(), 0], ((0,), 0), ("rest", ())):
            self.assertIs(is_asking_paper(PICK, 1, (word, {**table, (PICK.text, (), 1): told})), False)
        for told in ("a", None, ((), 1), ((), False), [(), 0]):
            self.assertIs(is_asking_paper(PICK, 1, (word, {**table, answered: told})), False)
        # More questions left than at first are let, where they lead to keys.
        self.assertIs(is_asking_paper(PICK, 1, (word, {**table, ("a", (("a", True),), 6): None})), True)
        self.assertIs(is_asking_paper(PICK, 1, (word, {**table, ("a", (("a", True),), 7): None})), False)
        self.assertIs(is_asking_paper(PICK, 1, (word, {**table, ("a", (), 6): None})), False)
        self.assertIs(is_asking_paper(A, 0, ("counter", {("a", (), 0): ("rest", ())})), True)
        self.assertIs(is_asking_paper(A, 0, ("counter", {("a", (), 0): ("rest", ()), ("a", (), 3): ("rest", ())})), False)

    def test_a_fact_that_is_known_or_asked_without_a_question_left(self):
        start, yes, no = (BOTH.text, (), 1), (BOTH.text, (("a", True),), 0), (BOTH.text, (("a", False),), 0)
        self.assertIs(is_asking_paper(BOTH, 1, ("plan", {start: "a", yes: "a", no: "a"})), False)
        self.assertIs(is_asking_paper(BOTH, 0, ("plan", {(BOTH.text, (), 0): "a", yes: None, no: None})), False)
        one = Promise.read("(a | !a)")
        table = {(one.text, (), 1): "a", (one.text, (("a", True),), 0): None, (one.text, (("a", False),), 0): None}
        self.assertIs(is_asking_paper(one, 1, ("plan", table)), True)
        self.assertIs(is_asking_paper(one, 1, ("plan", {**table, (one.text, (("a", True),), 0): "a"})), False)

    def test_counters_where_one_answer_alone_leads_to_a_key(self):
        one = Promise.read("[(a & b) + a]")
        self.assertIs(is_kept_asking(one, 1), False)
        table = {}
        for left, known in ((1, ()), (0, (("a", False),)), (0, (("b", False),))):
            for text in (one.text, "(a & b)", "a"):
                table[(text, known, left)] = ("rest", ())
        self.assertIs(is_asking_paper(one, 1, ("counter", table)), True)
        for gone in ((("a", False),), (("b", False),)):
            less = {key: told for key, told in table.items() if key[1] != gone}
            self.assertIs(is_asking_paper(one, 1, ("counter", less)), False)
        other = {(key[0], (("b", True),) if key[1] == (("b", False),) else key[1], key[2]): told for key, told in table.items()}
        self.assertIs(is_asking_paper(one, 1, ("counter", other)), False)
        fitting = {key: ("rest", ("b",)) if key[1] == (("b", True),) else told for key, told in other.items()}
        self.assertIs(is_asking_paper(one, 1, ("counter", fitting)), True)

    def test_a_rest_at_a_world_that_does_not_agree(self):
        known = (("a", True),)
        table = {("a", (), 1): ("rest", ()), ("a", (("a", False),), 0): ("rest", ())}
        self.assertIs(is_asking_paper(A, 1, ("counter", table)), True)
        self.assertIs(is_asking_paper(A, 1, ("counter", {("a", (), 1): ("rest", ()), ("a", known, 0): ("rest", ())})), False)
        self.assertIs(is_asking_paper(A, 1, ("counter", {**table, ("a", (), 1): ("rest", ("a",))})), False)
        self.assertIs(is_asking_paper(A, 1, ("counter", {**table, ("a", (), 1): ("rest", ["a"])})), False)
        self.assertIs(is_asking_paper(A, 1, ("counter", {**table, ("a", (), 1): ("rest", (), 0)})), False)
        self.assertIs(is_asking_paper(A, 1, ("counter", {**table, ("a", (), 1): ("call", (), 0)})), False)
        for told in ((), ("rest",), ("wait", ()), ("Rest", ()), (None, ()), ((), ()), ["rest", ()], "rest", None, ((), "rest")):
            self.assertIs(is_asking_paper(A, 1, ("counter", {**table, ("a", (), 1): told})), False)

    def test_calls_in_counters(self):
        one = Promise.read("[a * b]")
        table = {(one.text, (), 0): ("call", (), 1), ("b", (), 0): ("rest", ())}
        self.assertIs(is_asking_paper(one, 0, ("counter", table)), True)
        for told in (("call", (), 0), ("call", (), True), ("call", (), 2), ("wait", (), 1), (None, (), 1), ("call", ()), ("call", (), 1, 1),
                     ("call",), ((), 1), ("call", ((), 1)), ["call", (), 1], ("call", [], 1), ("rest", (), 1), "call", None, ()):
            self.assertIs(is_asking_paper(one, 0, ("counter", {**table, (one.text, (), 0): told})), False)

    def test_papers_made_at_random(self):
        rng = random.Random(84)
        for promise in SMALL:
            for most in (0, 1, 2):
                inquiry = reference.Inquiry(promise.text)
                word = "plan" if inquiry.kept(promise.text, (), most) else "counter"
                table = self.random_table(inquiry, promise, most, rng)
                self.assertTrue(is_right(promise, most, (word, table)))
                self.assertIs(is_asking_paper(promise, most, (word, table)), True)

    def random_table(self, inquiry, promise, most, rng):
        """A plan or a counter whose entries are chosen at random."""
        won = inquiry.kept(promise.text, (), most)
        table, waiting = {}, [(promise.text, (), most)]
        while waiting:
            key = waiting.pop()
            if key in table:
                continue
            position, known, left = key
            own = "keeper" if won else "caller"
            told = [(call if won else ("call", *call), [(behind, known, left)])
                    for call, behind in reference.ways(promise.text, position, own)
                    if inquiry.kept(behind, known, left) == won]
            heard = [(behind, known, left) for _, behind in reference.ways(promise.text, position, "caller" if won else "keeper")]
            asked = [[(position, more, left - 1) for more in inquiry.answers(known, fact)]
                     for fact in inquiry.unknown(known) if left > 0]
            if won:
                if inquiry.holds(position, known) and all(inquiry.kept(*one) for one in heard):
                    told.append((None, heard))
                told += [(fact, states) for fact, states in zip(inquiry.unknown(known), asked)
                         if all(inquiry.kept(*one) for one in states)]
            elif not inquiry.holds(position, known) and not any(inquiry.kept(*one) for one in heard):
                worse = [[one for one in states if not inquiry.kept(*one)] for states in asked]
                if all(worse):
                    for world in reference.agreeing(promise, known):
                        if not reference.holds_in(position, (world,)):
                            told.append((("rest", world), heard + [rng.choice(states) for states in worse]))
            table[key], behind = rng.choice(told)
            waiting += behind
        return table

    def test_all_sorts(self):
        for value in all_sorts():
            for bad in (value, ("plan", value), ("counter", value), (value, {}), ("plan", {(PICK.text, (), 1): value})):
                self.assertIs(is_asking_paper(PICK, 1, bad), False)

    def test_a_lesser_limit_of_keys_is_met_exactly(self):
        for promise in SOME:
            for most in (0, 1, 2):
                found = Asking(board_of(promise))
                table = asking_table(found, (0, (), most), 10 ** 6)
                self.assertEqual(asking_table(found, (0, (), most), len(table)), table)
                with self.assertRaises(TooMany) as caught:
                    asking_table(found, (0, (), most), len(table) - 1)
                self.assertEqual(caught.exception.limit, len(table) - 1)

    def test_more_keys_than_are_let(self):
        self.assertEqual(module.MAX_KEYS, 20000)
        # A counter has a key for each of 625 positions and each part of six facts that is asked for.
        promise = Promise.read("([a + b + c + d] & [a + b + c + d] & [e + f + a + b] & [e + f + a + c])")
        with self.assertRaises(TooMany) as caught:
            asking_paper(promise, 6)
        self.assertEqual(caught.exception.limit, 20000)
        self.assertEqual([is_kept_asking(promise, 6), questions(promise), good_questions(promise, 6)], [False, None, ()])
        for text, most in (("([[a + !a] * [b + !b]] & [[c + !c] * [d + !d]] & [[e + !e] * [f + !f]])", 6),
                           ("(([a + b + c + d] | [a * b * c * d]) & ([e + f + a + b] | [e * f * a * c]) & [a + b])", 6)):
            paper = asking_paper(Promise.read(text), most)
            self.assertIs(is_asking_paper(Promise.read(text), most, paper), True)
            self.assertGreater(len(paper[1]), 3000)


class AskerTest(unittest.TestCase):
    def refused(self, error, asker, call):
        """The error of a call, behind which nothing is changed."""
        before = (asker.promise, asker.position, asker.known, asker.left, str(asker), asker.wish())
        with self.assertRaises(error) as caught:
            call()
        self.assertIs(type(caught.exception), error)
        self.assertEqual((asker.promise, asker.position, asker.known, asker.left, str(asker), asker.wish()), before)
        return caught.exception

    def judge(self, asker, inquiry):
        """What an asker wishes at a state that is kept."""
        position, known, left = asker.position.text, asker.known, asker.left
        self.assertIs(inquiry.kept(position, known, left), True)
        self.assertEqual(str(asker), f"{position}, {len(known)} known, {left} left")
        wish = asker.wish()
        heard = [behind for _, behind in reference.ways(inquiry.text, position, "caller")]
        waits = inquiry.holds(position, known) and all(inquiry.kept(one, known, left) for one in heard)
        good = [call for call, behind in reference.ways(inquiry.text, position, "keeper") if inquiry.kept(behind, known, left)]
        facts = [fact for fact in inquiry.unknown(known)
                 if left > 0 and all(inquiry.kept(position, more, left - 1) for more in inquiry.answers(known, fact))]
        if wish is None:
            self.assertIs(waits, True)
        elif isinstance(wish, tuple):
            self.assertIn(wish, good)
        else:
            self.assertEqual([waits, good], [False, []])
            self.assertIn(wish, facts)
        self.assertEqual(asker.wish(), wish)
        return wish

    def test_sessions(self):
        rng = random.Random(85)
        count = 0
        for promise in SOME * 2:
            inquiry = reference.Inquiry(promise.text)
            for most in (0, 1, 2):
                if not inquiry.kept(promise.text, (), most):
                    with self.assertRaises(NotKept) as caught:
                        Asker(promise, most)
                    self.assertEqual(caught.exception.wanted, promise.text)
                    continue
                count += 1
                self.session(Asker(promise, most), inquiry, rng)
        self.assertGreater(count, 100)

    def session(self, asker, inquiry, rng):
        """A session in which one world is the true one."""
        truth = rng.choice(reference.worlds(asker.promise))
        for _ in range(10):
            wish = self.judge(asker, inquiry)
            there = calls(asker.position, "caller")
            step = rng.choice(("hear", "go", "ask"))
            if step == "hear" and there:
                call = rng.choice(there)
                expected = called(asker.position, call)
                self.assertIsNone(asker.hear(*call))
                self.assertEqual(asker.position, expected)
            elif step == "go":
                expected = called(asker.position, wish) if isinstance(wish, tuple) else asker.position
                self.assertEqual(asker.go(), wish if isinstance(wish, tuple) else None)
                self.assertEqual(asker.position, expected)
            elif isinstance(wish, str):
                known, left = asker.known, asker.left
                self.assertIsNone(asker.tell(wish, wish in truth))
                self.assertEqual([asker.known, asker.left], [tuple(sorted((*known, (wish, wish in truth)))), left - 1])
            else:
                self.tell_any(asker, inquiry, rng)
        while self.judge(asker, inquiry) is not None:
            wish = asker.wish()
            if isinstance(wish, str):
                asker.tell(wish, wish in truth)
            else:
                asker.go()
        agreeing = reference.agreeing(asker.promise, asker.known)
        self.assertIs(reference.holds_in(asker.position.text, agreeing), True)

    def tell_any(self, asker, inquiry, rng):
        """Tell the truth of some fact, which can be refused."""
        facts = inquiry.unknown(asker.known)
        if not facts or asker.left == 0:
            return
        fact, truth = rng.choice(facts), rng.random() < 0.5
        more = tuple(sorted((*asker.known, (fact, truth))))
        if inquiry.kept(asker.position.text, more, asker.left - 1):
            asker.tell(fact, truth)
        else:
            error = self.refused(NotKept, asker, lambda: asker.tell(fact, truth))
            self.assertEqual(error.wanted, asker.position.text)

    def test_a_given_session(self):
        asker = Asker(promise=BOTH, most=2)
        self.assertEqual([asker.promise, asker.position, asker.known, asker.left], [BOTH, BOTH, (), 2])
        self.assertIn(asker.wish(), ("a", "b"))
        self.assertIsNone(asker.go())
        self.assertIsNone(asker.tell(fact="b", truth=True))
        self.assertEqual([asker.known, asker.left, asker.wish()], [(("b", True),), 1, ((1,), 0)])
        self.assertEqual([asker.go(), asker.wish()], [((1,), 0), "a"])
        asker.tell("a", False)
        self.assertEqual([asker.known, asker.go(), asker.go(), str(asker)],
                         [(("a", False), ("b", True)), ((0,), 1), None, "(!a & b), 2 known, 0 left"])

    def test_what_can_be_told(self):
        asker = Asker(LATER, 1)
        for value in [one for one in all_sorts() if one not in ("a", "b")] + ["c", "A", ("a",)]:
            for truth in (True, 1):
                self.assertEqual(self.refused(UnknownFact, asker, lambda: asker.tell(value, truth)).asked, value)
        for value in [one for one in all_sorts() if not isinstance(one, bool)] + [1, 0, None]:
            self.refused(InvalidOperation, asker, lambda: asker.tell("a", value))
        # Behind an answer ahead of the caller's call the promise is not kept any more.
        self.assertEqual(self.refused(NotKept, asker, lambda: asker.tell("a", True)).wanted, LATER.text)
        asker.hear((), 0)
        self.assertEqual(self.refused(NotKept, asker, lambda: asker.tell("b", True)).wanted, "[a + !a]")
        asker.tell("a", True)
        for fact in ("a", "b"):
            for truth in (True, False, None):
                self.refused(InvalidOperation, asker, lambda: asker.tell(fact, truth))
        self.refused(UnknownFact, asker, lambda: asker.tell("c", None))
        two = Asker(COPY, 2)
        two.tell("a", True)
        self.refused(InvalidOperation, two, lambda: two.tell("a", True))
        self.refused(InvalidOperation, two, lambda: two.tell("b", 1))
        none = Asker(COPY, 0)
        self.refused(InvalidOperation, none, lambda: none.tell("a", True))

    def test_calls_that_are_not_there(self):
        asker = Asker(COPY, 1)
        for place, index in [((0,), 0), ((1,), True), ((True,), 0), ((1,), 2), ((1,), -1), ((), 0), ([1], 0), ((2,), 0), (1, 0)]:
            self.refused(InvalidCall, asker, lambda: asker.hear(place, index))
        for value in all_sorts():
            self.refused(InvalidCall, asker, lambda: asker.hear(value, 0))
            if type(value) is not int or value not in (0, 1):
                self.refused(InvalidCall, asker, lambda: asker.hear((1,), value))
        asker.hear(place=(1,), index=1)
        self.refused(InvalidCall, asker, lambda: asker.hear((1,), 1))
        self.assertEqual([asker.wish(), asker.go(), asker.wish(), asker.go()], [((0,), 1), ((0,), 1), None, None])

    def test_equality(self):
        one, two = Asker(COPY, 1), Asker(COPY, 1)
        self.assertEqual([one == two, one != two, one == Asker(COPY, 2)], [True, False, False])
        one.hear((1,), 0)
        self.assertIs(one == two, False)
        two.hear((1,), 0)
        self.assertIs(one == two, True)
        one.tell("b", True)
        self.assertIs(one == two, False)
        two.tell("b", True)
        self.assertIs(one == two, True)
        # The same that is left of another promise is not equal.
        self.assertIs(Asker(HALF, 1) == self.heard(COPY), False)
        for value in all_sorts():
            if not isinstance(value, Asker):
                self.assertEqual([one == value, one != value], [False, True])
        self.assertEqual(equal_ones(Asker(PICK, 1)), ["Asker"])

    def heard(self, promise):
        """An asker who has heard a call."""
        found = Asker(promise, 1)
        found.hear((1,), 0)
        return found

    def test_what_is_no_method(self):
        asker = Asker(COPY, 1)
        for name in ("promise", "position", "known", "left"):
            with self.assertRaises(AttributeError):
                setattr(asker, name, ())
        for call in (lambda: list(asker), lambda: len(asker), lambda: 1 in asker, lambda: [*asker]):
            with self.assertRaises(TypeError):
                call()

    def test_no_state_is_shared(self):
        one = Asker(COPY, 2)
        known = one.known
        one.tell("a", True)
        self.assertEqual([known, one.known], [(), (("a", True),)])
        self.assertEqual(Asker(one.promise, 2).known, ())

    def test_all_answers_in_all_orders(self):
        for facts in itertools.permutations("ab"):
            for truths in itertools.product((True, False), repeat=2):
                asker = Asker(BOTH, 2)
                for fact, truth in zip(facts, truths):
                    asker.tell(fact, truth)
                self.assertEqual(asker.known, tuple(sorted(zip(facts, truths))))

    def test_a_promise_without_facts(self):
        self.assertEqual(str(Asker(Promise.sure(), 6)), "yes, 0 known, 6 left")
        self.assertEqual([questions(Promise.read(text)) for text in TEXTS[:4]], [None, None, 0, None])


if __name__ == "__main__":
    unittest.main()
