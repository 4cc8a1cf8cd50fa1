"""[9.1] to [9.3]: needs, tables that show them, and the cost of plans."""

import functools
import random
import unittest

from eitherhand.base.promises import Promise
from eitherhand.errors import InvalidNumber, InvalidOperation, InvalidPlan, InvalidPromise, NotKept
from eitherhand.keep import fewest
from eitherhand.keep.fewest import (
    cost, is_least_table, is_most_table, is_sparing, least_table, most_table, need, needs, sparing_calls, sparing_plan,
)
from eitherhand.keep.kept import plan_for
from eitherhand.keep.plans import Plan, is_plan
from samples import COPY, COPY_PLAN, HALF, PICK, TEXTS, TWICE, all_sorts, no_promises, varied
import reference

SOME = [PICK, TWICE, COPY, HALF, *[Promise.read(text) for text in TEXTS], *varied(51, 160), *varied(52, 40, facts="abc")]
KEPT = [one for one in SOME if one.text in reference.kept(one.text)]


@functools.lru_cache(maxsize=None)
def can_do(text, position, many):
    """Whether the keeper can keep a position with so many calls."""
    if reference.stable(position):
        if all(can_do(text, behind, many) for _, behind in reference.ways(text, position, "caller")):
            return True
    return many > 0 and any(can_do(text, behind, many - 1) for _, behind in reference.ways(text, position, "keeper"))


@functools.lru_cache(maxsize=None)
def needed(text, position):
    """The need, as the least number that will do."""
    return min([many for many in range(11) if can_do(text, position, many)], default=11)


def is_most(text, many, table):
    """Whether a dict is a most table, word by word as in [9.2]."""
    if text not in table or table[text] > many or any(key not in reference.game(text) for key in table):
        return False
    for key, told in table.items():
        if not 0 <= told <= 10:
            return False
        heard = [behind for _, behind in reference.ways(text, key, "caller")]
        waits = reference.stable(key) and all(behind in table and table[behind] <= told for behind in heard)
        answers = [behind for _, behind in reference.ways(text, key, "keeper")]
        if not waits and not any(behind in table and table[behind] < told for behind in answers):
            return False
    return True


def is_least(text, many, table):
    """Whether a dict is a least table, word by word as in [9.2]."""
    if text not in table or table[text] < many or any(key not in reference.game(text) for key in table):
        return False
    for key, told in table.items():
        if not 1 <= told <= 11:
            return False
        answers = [behind for _, behind in reference.ways(text, key, "keeper")]
        if told != 1 and not all(behind in table and table[behind] >= told - 1 for behind in answers):
            return False
        heard = [behind for _, behind in reference.ways(text, key, "caller")]
        if reference.stable(key) and not any(behind in table and table[behind] >= told for behind in heard):
            return False
    return True


class NeedTest(unittest.TestCase):
    def test_the_constant(self):
        self.assertEqual(fewest.MAX_CALLS, 10)

    def test_needs_of_all_positions(self):
        seen = set()
        for promise in SOME:
            text = promise.text
            expected = {key: needed(text, key) for key in sorted(reference.game(text))}
            found = needs(promise)
            self.assertEqual(found, expected)
            self.assertEqual(list(found), sorted(found))
            self.assertTrue(all(type(many) is int for many in found.values()))
            self.assertEqual(need(promise), expected[text])
            self.assertEqual(need(promise) == 11, text not in reference.kept(text))
            seen.add(need(promise))
        self.assertLessEqual({0, 1, 2, 11}, seen)

    def test_a_need_of_ten(self):
        self.assertEqual([need(Promise.read(text)) for text in ("yes", "[yes + a]", "[[yes + a] + a]")], [0, 1, 2])
        nested = "yes"
        for _ in range(5):
            nested = f"[{nested} + no]"
        both = Promise.read(f"({nested} & {nested})")
        self.assertEqual([both.choices, need(both), cost(both, sparing_plan(both)), len(needs(both))], [10, 10, 10, 49])
        self.assertIs(is_most_table(both, 10, most_table(both, 10)), True)
        self.assertIs(is_least_table(both, 10, least_table(both, 10)), True)
        with self.assertRaises(NotKept):
            most_table(both, 9)
        with self.assertRaises(InvalidOperation):
            least_table(both, 11)

    def test_all_plans_cost_at_least_the_need(self):
        rng = random.Random(53)
        dearer = 0
        for promise in KEPT:
            for _ in range(4):
                table = reference.random_table(promise.text, "keeper", rng)
                found = cost(promise, table)
                self.assertEqual(found, Plan(promise, table).most_calls())
                self.assertGreaterEqual(found, need(promise))
                self.assertIs(is_sparing(promise, table), found == need(promise))
                dearer += found > need(promise)
        self.assertGreater(dearer, 20)

    def test_cost_over_all_runs(self):
        rng = random.Random(54)
        for promise in [one for one in KEPT if len(reference.game(one.text)) < 60]:
            table = reference.random_table(promise.text, "keeper", rng)
            most = 0
            for run in reference.sound_runs(promise.text):
                fine, going = reference.goes_by(promise.text, "keeper", table, run)
                if fine and going.due() is None:
                    most = max(most, len([move for move in run if move[0] == "keeper"]))
            self.assertEqual(cost(promise, table), most)

    def test_cost_from_the_promise_on(self):
        two = Promise.read("([a + b] | !a | [yes + no])")
        table = {two.text: ((2,), 0), "([a + b] | !a | yes)": None}
        more = {**table, "(b | !a | [yes + no])": ((2,), 0), "(b | !a | yes)": None}
        self.assertEqual([cost(two, table), cost(two, more), need(two)], [1, 1, 1])
        longer = {two.text: ((1 + 1,), 0), "([a + b] | !a | yes)": ((0,), 0), "(a | !a | yes)": None}
        self.assertEqual([cost(two, longer), is_sparing(two, longer), is_sparing(two, more)], [2, False, True])

    def test_sparing_plans(self):
        for promise in SOME:
            if promise not in KEPT:
                with self.assertRaises(NotKept) as caught:
                    sparing_plan(promise)
                self.assertEqual(caught.exception.wanted, promise.text)
                continue
            table = sparing_plan(promise)
            self.assertEqual(list(table), sorted(table))
            self.assertTrue(reference.is_plan(promise.text, table))
            self.assertEqual([is_plan(promise, table), cost(promise, table)], [True, need(promise)])
            self.assertIs(is_sparing(promise, table), True)
            self.assertIs(is_sparing(promise, plan_for(promise)), cost(promise, plan_for(promise)) == need(promise))

    def test_some_sparing_plan_waits_wherever_it_can(self):
        for promise in KEPT:
            for key, told in sparing_plan(promise).items():
                won = reference.kept(promise.text)
                waits = reference.stable(key) and all(
                    behind in won for _, behind in reference.ways(promise.text, key, "caller"))
                self.assertEqual(told is None, waits)

    def test_what_is_not_sparing(self):
        for value in [*all_sorts(), {COPY.text: None}, {**COPY_PLAN, "a": None}]:
            self.assertIs(is_sparing(COPY, value), False)
            self.assertIs(is_sparing(PICK, value), False)
        self.assertIs(is_sparing(COPY, COPY_PLAN), True)

    def test_sparing_calls(self):
        for promise in SOME:
            text = promise.text
            expected = tuple(sorted(
                call for call, behind in reference.ways(text, text, "keeper")
                if needed(text, behind) == needed(text, text) - 1 and needed(text, text) != 11
            ))
            self.assertEqual(sparing_calls(promise), expected)
        self.assertEqual(sparing_calls(Promise.read("[(a | !a) + [yes + b] + b + yes]")), (((), 0), ((), 3)))


class TablesTest(unittest.TestCase):
    def test_most_tables(self):
        for promise in SOME:
            for many in (0, 1, 2, 3, 10):
                if need(promise) > many:
                    with self.assertRaises(NotKept) as caught:
                        most_table(promise, many)
                    self.assertEqual(caught.exception.wanted, promise.text)
                else:
                    table = most_table(promise, many)
                    self.assertEqual(list(table), sorted(table))
                    self.assertTrue(is_most(promise.text, many, table))
                    self.assertIs(is_most_table(promise, many, table), True)
                    self.assertIs(is_most_table(promise=promise, many=10, value=table), True)

    def test_least_tables(self):
        for promise in SOME:
            for many in (1, 2, 3, 10, 11):
                if need(promise) < many:
                    with self.assertRaises(InvalidOperation):
                        least_table(promise, many)
                else:
                    table = least_table(promise, many)
                    self.assertEqual(list(table), sorted(table))
                    self.assertTrue(is_least(promise.text, many, table))
                    self.assertIs(is_least_table(promise, many, table), True)
                    self.assertIs(is_least_table(promise, 1, table), True)

    def test_changed_tables(self):
        rng = random.Random(55)
        judged = {(kind, flag): 0 for kind in ("most", "least") for flag in (True, False)}
        for promise in SOME:
            text = promise.text
            keys = sorted(reference.game(text))
            for kind, judge, expect, least in (("most", is_most_table, is_most, 0), ("least", is_least_table, is_least, 1)):
                table = {key: needed(text, key) for key in keys}
                table = {key: told for key, told in table.items() if least <= told <= 10 + least}
                for _ in range(10):
                    changed = dict(table)
                    for key in rng.sample(keys, min(len(keys), rng.choice((1, 1, 2)))):
                        changed[key] = rng.choice((changed.get(key, 1) + 1, changed.get(key, 1) - 1, rng.randrange(-1, 13)))
                    for key in rng.sample(sorted(changed), rng.randrange(min(3, len(changed)))):
                        del changed[key]
                    many = max(least, min(10, needed(text, text) + rng.choice((0, 0, 1, -1))))
                    expected = expect(text, many, changed)
                    judged[(kind, expected)] += 1
                    self.assertIs(judge(promise, many, changed), expected)
                    self.assertIs(judge(promise, many, {key: changed[key] for key in sorted(changed, reverse=True)}), expected)
        self.assertGreater(min(judged.values()), 100)

    def test_given_most_tables(self):
        table = {HALF.text: 1, "(a | !a)": 0}
        self.assertEqual([is_most_table(HALF, many, table) for many in (0, 1, 2, 10)], [False, True, True, True])
        self.assertIs(is_most_table(HALF, 10, {HALF.text: 10, "(a | !a)": 9}), True)
        self.assertIs(is_most_table(HALF, 10, {HALF.text: 10, "(a | !a)": 10}), False)
        self.assertIs(is_most_table(HALF, 10, {HALF.text: 11, "(a | !a)": 9}), False)
        self.assertIs(is_most_table(HALF, 1, {**table, "(b | !a)": 0}), False)
        self.assertIs(is_most_table(HALF, 1, {"(a | !a)": 0}), False)
        self.assertIs(is_most_table(COPY, 3, {COPY.text: 2, HALF.text: 1, "([a + b] | !b)": 2, "(a | !a)": 0, "(b | !b)": 1}), True)
        self.assertIs(is_most_table(COPY, 3, {COPY.text: 1, HALF.text: 1, "([a + b] | !b)": 2, "(a | !a)": 0, "(b | !b)": 1}), False)
        for told in (True, False, -1, 11, 12, None, "1", (1,), [1], 10 ** 60):
            self.assertIs(is_most_table(HALF, 10, {HALF.text: told, "(a | !a)": 0}), False, told)
            self.assertIs(is_most_table(HALF, 10, {HALF.text: 10, "(a | !a)": told}), False, told)
        for key in ("a", "", None, True, 1, ("a",), HALF.text + " "):
            self.assertIs(is_most_table(HALF, 1, {**table, key: 1}), False)

    def test_given_least_tables(self):
        self.assertEqual([is_least_table(COPY, many, {COPY.text: 1, HALF.text: 1}) for many in (1, 2, 11)], [True, False, False])
        table = {text: 11 for text in reference.game(PICK.text)}
        self.assertEqual([is_least_table(PICK, many, table) for many in (1, 10, 11)], [True] * 3)
        self.assertIs(is_least_table(PICK, 11, {**table, "a": 10}), True)
        self.assertIs(is_least_table(PICK, 11, {**table, "a": 9}), False)
        self.assertIs(is_least_table(PICK, 11, {**table, "a": 12}), False)
        self.assertIs(is_least_table(PICK, 1, {PICK.text: 1}), True)
        self.assertIs(is_least_table(PICK, 2, {PICK.text: 2}), False)
        self.assertIs(is_least_table(PICK, 2, {PICK.text: 2, "a": 1, "!a": 1}), True)
        self.assertIs(is_least_table(Promise.sure(), 1, {"yes": 1}), False)
        for told in (True, False, -1, 0, 12, None, "1", (1,), [1], 10 ** 60):
            self.assertIs(is_least_table(PICK, 1, {PICK.text: told}), False, told)
            self.assertIs(is_least_table(PICK, 1, {PICK.text: 1, "a": told}), False, told)
        for key in ("b", "", None, True, 1, ("a",), PICK.text + " "):
            self.assertIs(is_least_table(PICK, 1, {PICK.text: 1, key: 1}), False)

    def test_other_values(self):
        for value in [*all_sorts(), [(HALF.text, 1)], needs]:
            self.assertIs(is_most_table(HALF, 10, value), False)
            self.assertIs(is_least_table(PICK, 1, value), False)
            self.assertIs(is_most_table(HALF, 10, {HALF.text: value, "(a | !a)": 0}), type(value) is int and 1 <= value <= 10)
            self.assertIs(is_least_table(PICK, 1, {PICK.text: value}), type(value) is int and value == 1)

    def test_numbers(self):
        functions = {
            0: (lambda many: most_table(HALF, many), lambda many: is_most_table(HALF, many, 3)),
            1: (lambda many: least_table(PICK, many), lambda many: is_least_table(PICK, many, 3)),
        }
        for least, both in functions.items():
            for function in both:
                for value in [*all_sorts(), -1, 0, 1, 10, 11, 12, True, False]:
                    if type(value) is not int or not least <= value <= 10 + least:
                        with self.assertRaises(InvalidNumber) as caught:
                            function(value)
                        self.assertEqual(caught.exception.number, value)
                        self.assertIs(type(caught.exception.number), type(value))
        self.assertEqual([is_most_table(HALF, many, 3) for many in (0, 10)], [False, False])
        self.assertEqual([is_least_table(PICK, many, 3) for many in (1, 11)], [False, False])

    def test_no_promise_and_no_plan(self):
        for value in no_promises():
            for call in (lambda: need(value), lambda: needs(value), lambda: most_table(value, 99),
                         lambda: is_most_table(value, 99, 3), lambda: least_table(value, 0), lambda: is_least_table(value, 0, 3),
                         lambda: cost(value, 3), lambda: sparing_plan(value), lambda: is_sparing(value, 3),
                         lambda: sparing_calls(value)):
                with self.assertRaises(InvalidPromise):
                    call()
        for value in [*all_sorts(), {COPY.text: None}, Plan(COPY, COPY_PLAN)]:
            with self.assertRaises(InvalidPlan):
                cost(COPY, value)


if __name__ == "__main__":
    unittest.main()
