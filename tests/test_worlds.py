"""[4.1], [4.2]: worlds, plain forms, and the class `Plain`."""

import itertools
import unittest

from eitherhand.base.promises import Promise
from eitherhand.errors import InvalidOperation, InvalidPromise, InvalidWorld, UnknownFact
from eitherhand.plain.worlds import (
    Plain, are_equal_plain, does_depend, does_hold, false_worlds, is_stable, is_world, plain_form, with_truth, worlds,
)
from samples import A, COPY, TEXTS, TWICE, all_sorts, no_promises, varied
import reference

SIX = Promise.read("((a & !c) | (b | !d) | ((e & f) | [a + b + yes]))")
SOME = [*[Promise.read(text) for text in TEXTS], SIX, *varied(5, 60), *varied(6, 40, facts="abc")]


class WorldsTest(unittest.TestCase):
    def test_all_worlds_in_order(self):
        for promise in SOME:
            found = list(worlds(promise))
            self.assertEqual(found, reference.worlds(promise))
            self.assertTrue(all(is_world(promise, world) is True for world in found))
        self.assertEqual(list(worlds(Promise.sure())), [()])
        self.assertEqual(list(worlds(-A)), [(), ("a",)])
        self.assertEqual(len(list(worlds(SIX))), 64)
        self.assertEqual(list(worlds(SIX))[:4], [(), ("a",), ("a", "b"), ("a", "b", "c")])
        self.assertEqual(list(worlds(SIX))[-2:], [("e", "f"), ("f",)])

    def test_worlds_is_a_generator(self):
        made = worlds(promise=COPY)
        self.assertIs(iter(made), made)
        self.assertEqual(next(made), ())
        for value in no_promises():
            made = worlds(value)
            with self.assertRaises(InvalidPromise):
                next(made)

    def test_values_near_worlds(self):
        near = [("a", "a"), ("b", "a"), ("c",), ("a", "b", "c"), ["a"], "a", "ab", {"a"}, {"a": "b"}, ("a", 1), ("a", True),
                (None,), (("a",),), ("a", "b", "b"), ("A",), ("a ",), [], {}, None, 0, ("",), ("yes",), (["a"],)]
        for value in [*near, *all_sorts()]:
            if value not in [(), ("a",), ("b",), ("a", "b")]:
                self.assertIs(is_world(COPY, value), False, value)
                for function in (does_hold, lambda promise, world: Plain(promise).at(world)):
                    with self.assertRaises(InvalidWorld):
                        function(COPY, value)
        self.assertIs(is_world(Promise.sure(), ()), True)
        self.assertIs(is_world(Promise.sure(), ("a",)), False)

    def test_plain_forms(self):
        for promise in SOME:
            form = plain_form(promise)
            self.assertEqual(form.choices, 0)
            self.assertEqual(plain_form(form), form)
            for world in reference.worlds(promise):
                left = tuple(fact for fact in world if fact in form.facts)
                self.assertIs(does_hold(promise, world), reference.holds(promise, world))
                self.assertIs(does_hold(form, left), reference.holds(promise, world))

    def test_given_plain_forms(self):
        given = {
            "a": "a", "!a": "!a", "yes": "yes", "no": "no", "[a + b]": "no", "[a * b]": "yes",
            "(a & [b + [c * d]])": "(a & no)", "([[a + b] * c] | (!b & yes))": "(yes | (!b & yes))",
            "(a | [b * (c & [a + b])] | ([c + d] & !d))": "(a | yes | (no & !d))",
        }
        for text, form in given.items():
            self.assertEqual(plain_form(Promise.read(text)).text, form)

    def test_stable_and_false_worlds(self):
        for promise in SOME:
            out = tuple(world for world in reference.worlds(promise) if not reference.holds(promise, world))
            self.assertEqual(false_worlds(promise), out)
            self.assertIs(is_stable(promise), out == ())
        given = {"[a + !a]": False, "[a * !a]": True, "(a | !a)": True, "a": False, "yes": True, "no": False}
        for text, stable in given.items():
            self.assertIs(is_stable(Promise.read(text)), stable)
        self.assertEqual(false_worlds(Promise.read("[a + b]")), ((), ("a",), ("a", "b"), ("b",)))

    def test_with_truth(self):
        both = Promise.read("((a & !a) | [b + !a] | [a * [!b + a]])")
        self.assertEqual(with_truth(both, "a", True).text, "((yes & no) | [b + no] | [yes * [!b + yes]])")
        self.assertEqual(with_truth(both, "a", False).text, "((no & yes) | [b + yes] | [no * [!b + no]])")
        self.assertEqual(with_truth(both, "b", True).text, "((a & !a) | [yes + !a] | [a * [no + a]])")
        self.assertEqual(with_truth(promise=-A, fact="a", truth=False), Promise.sure())
        for promise in SOME:
            for fact in promise.facts:
                for truth in (True, False):
                    told = with_truth(promise, fact, truth)
                    self.assertEqual(told.facts, tuple(one for one in promise.facts if one != fact))
                    for world in reference.worlds(told):
                        whole = tuple(sorted((*world, fact))) if truth else world
                        self.assertEqual(reference.holds(told, world), reference.holds(promise, whole))

    def test_with_truth_refuses(self):
        for value in all_sorts():
            if not isinstance(value, str) or value not in ("a", "b"):
                for function in (lambda fact: with_truth(COPY, fact, True), lambda fact: does_depend(COPY, fact),
                                 lambda fact: with_truth(COPY, fact, 0), lambda fact: Plain(COPY).with_fact(fact, 1)):
                    with self.assertRaises(UnknownFact) as caught:
                        function(value)
                    self.assertEqual(caught.exception.asked, value)
                    self.assertIs(type(caught.exception.asked), type(value))
            if value is not True and value is not False:
                for function in (lambda truth: with_truth(COPY, "a", truth), lambda truth: Plain(COPY).with_fact("a", truth)):
                    with self.assertRaises(InvalidOperation):
                        function(value)

    def test_does_depend(self):
        for promise in SOME:
            for fact in promise.facts:
                pairs = [
                    (world, tuple(sorted((*world, fact)))) for world in reference.worlds(promise) if fact not in world
                ]
                depends = any(reference.holds(promise, one) != reference.holds(promise, other) for one, other in pairs)
                self.assertIs(does_depend(promise, fact), depends)

    def test_facts_within_choices_alone(self):
        promise = Promise.read("(a & ([b + c] | [c * d] | b))")
        self.assertEqual([does_depend(promise, fact) for fact in "abcd"], [True, False, False, False])
        promise = Promise.read("(a & ([b + c] | ([c * d] & b)))")
        self.assertEqual([does_depend(promise, fact) for fact in "abcd"], [True, True, False, False])
        self.assertEqual(does_depend(Promise.read("(a | !a)"), "a"), False)

    def test_are_equal_plain(self):
        for one, other in itertools.product(SOME[::3], SOME[::3]):
            facts = sorted({*one.facts, *other.facts})
            alike = True
            for many in range(len(facts) + 1):
                for told in itertools.combinations(facts, many):
                    alike = alike and reference.holds(one, told) == reference.holds(other, told)
            self.assertIs(are_equal_plain(one, other), alike)

    def test_facts_of_one_promise_alone(self):
        given = [("(a | !a)", "yes", True), ("(a & !a)", "(b & !b)", True), ("(a | (b & !b))", "a", True), ("a", "b", False),
                 ("(a | b)", "a", False), ("[a + b]", "no", True), ("[c * d]", "(e | !e)", True), ("a", "yes", False)]
        for one, other, alike in given:
            self.assertIs(are_equal_plain(Promise.read(one), Promise.read(other)), alike)
            self.assertIs(are_equal_plain(Promise.read(other), Promise.read(one)), alike)
        apart = SIX.renamed(dict(zip("abcdef", "ghijkl")))
        self.assertIs(are_equal_plain(SIX, apart), False)
        self.assertIs(are_equal_plain(SIX | Promise.sure(), apart | Promise.sure()), True)

    def test_no_promise(self):
        for value in no_promises():
            for function in (plain_form, is_stable, false_worlds, Plain, lambda one: is_world(one, ()),
                             lambda one: does_hold(one, 3), lambda one: with_truth(one, 3, 3),
                             lambda one: does_depend(one, 3), lambda one: are_equal_plain(one, 3),
                             lambda one: are_equal_plain(A, one)):
                with self.assertRaises(InvalidPromise):
                    function(value)


class PlainTest(unittest.TestCase):
    def test_properties(self):
        for promise in SOME:
            plain = Plain(promise)
            found = reference.worlds(promise)
            table = tuple(reference.holds(promise, world) for world in found)
            self.assertEqual([plain.promise, plain.form, plain.facts, plain.table],
                             [promise, plain_form(promise), promise.facts, table])
            self.assertEqual(plain.true, tuple(world for world, holds in zip(found, table) if holds))
            self.assertEqual(plain.false, tuple(world for world, holds in zip(found, table) if not holds))
            self.assertTrue(all(type(holds) is bool for holds in plain.table))
            for world, holds in zip(found, table):
                self.assertIs(plain.at(world), holds)
                self.assertIs(world in plain, holds)
            self.assertEqual(len(plain), sum(table))
            self.assertEqual(tuple(plain), plain.true)
            self.assertEqual(str(plain), f"{sum(table)} of {len(table)} worlds")

    def test_needed(self):
        for promise in SOME:
            self.assertEqual(Plain(promise).needed(), tuple(one for one in promise.facts if does_depend(promise, one)))

    def test_with_fact(self):
        for promise in SOME[:30]:
            for fact in promise.facts:
                for truth in (True, False):
                    told = Plain(promise).with_fact(fact, truth)
                    self.assertEqual(told, Plain(with_truth(promise, fact, truth)))
                    self.assertEqual(told.promise, with_truth(promise, fact, truth))

    def test_membership_of_other_values(self):
        for value in [*all_sorts(), ["a"], ("b", "a"), ("a", "a"), ("c",), "a"]:
            self.assertIs(value in Plain(Promise.read("(a & b)")), False)
        self.assertIs(() in Plain(Promise.sure()), True)
        self.assertIs([] in Plain(Promise.sure()), False)

    def test_equality(self):
        self.assertEqual(Plain(Promise.read("(b | !a)")), Plain(Promise.read("(!a | b | (a & b))")))
        self.assertEqual(Plain(Promise.read("[a + b]")), Plain(Promise.read("((a & !a) & b)")))
        self.assertNotEqual(Plain(Promise.read("(a | !a)")), Plain(Promise.read("(b | !b)")))
        self.assertNotEqual(Plain(Promise.sure()), Plain(Promise.read("(b | !b)")))
        self.assertNotEqual(Plain(A), Plain(-A))
        for one, other in itertools.product(SOME[::4], SOME[::4]):
            same = Plain(one).facts == Plain(other).facts and Plain(one).table == Plain(other).table
            self.assertIs(Plain(one) == Plain(other), same)
            self.assertIs(Plain(one) != Plain(other), not same)
        for value in [*all_sorts(), TWICE, (True, False)]:
            self.assertIs(Plain(TWICE) == value, False)
            self.assertIs(Plain(TWICE) != value, True)

    def test_properties_cannot_be_set(self):
        for name in ("promise", "form", "facts", "table", "true", "false"):
            with self.assertRaises(AttributeError):
                setattr(Plain(COPY), name, ())


if __name__ == "__main__":
    unittest.main()
