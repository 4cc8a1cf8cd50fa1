"""[10.1], [10.2] and [0.19]: bridges, which promises lead to others, and the class `Order`."""

import itertools
import random
import unittest

from eitherhand.base.promises import Promise
from eitherhand.errors import InvalidNumber, InvalidOperation, InvalidPlan, InvalidPromise, TooMany
from eitherhand.keep.counters import is_counter
from eitherhand.keep.kept import is_kept, plan_for
from eitherhand.keep.plans import Plan, is_plan
from eitherhand.order import leads as module
from eitherhand.order.leads import (
    Order, are_alike, bridge, copy_table, is_order_paper, joined_plan, leads, order_paper,
)
from samples import (
    A, COPY, HALF, PICK, TEXTS, TWICE, all_sorts, chain, equal_ones, grown, no_promises, varied,
)
import reference

SMALL = [Promise.read(text) for text in (
    "a", "!a", "yes", "no", "b", "[a + b]", "[b + a]", "[a * b]", "(a & b)", "(a | b)", "[a + !a]", "[a * !a]",
    "[a + a]", "(a & (a | b))", "[[a + b] * a]", "[a + [a * b]]", "([a + b] & [a + b])", "[(a & b) + a]", "(a | !a)",
)]


def near(seed, many, most=3):
    """Promises made at random, with few choices, and for each one that is like it."""
    rng = random.Random(seed)
    found = []
    for one in varied(seed, many, most=most):
        if len(one) <= 16:
            found.append((one, rng.choice((one, one + grown(rng, 1, "ab"), one * grown(rng, 1, "ab"), one | A, one & A))))
    return [(one, other) for one, other in found if one.choices + other.choices <= 5 and max(one.depth, other.depth) < 8]


PAIRS = [*itertools.product(SMALL[:14], SMALL[:14]), *near(41, 120)]


class BridgeTest(unittest.TestCase):
    def test_bridges(self):
        for one, other in PAIRS:
            found = bridge(one, other)
            self.assertIs(type(found), Promise)
            self.assertEqual(found.text, f"({-one} | {other})")
            self.assertEqual([found.kind, found.parts], ["some", (-one, other)])

    def test_too_great(self):
        wide = Promise.read(f"({' & '.join(['(a & a & a & a)'] * 4)})")
        deep = chain(8)
        many = Promise.read("(([a + a] & [a + a] & [a + a]) | ([a + a] & [a + a] & [a + a]))")
        facts, more = Promise.read("(a & b & (c | d))"), Promise.read("(e & f & g)")
        pairs = {"nodes": (wide, wide), "depth": (deep, A), "depth behind": (A, deep), "choices": (many, many),
                 "facts": (facts, more)}
        self.assertEqual([len(wide), deep.depth, many.choices], [21, 8, 6])
        for one, other in pairs.values():
            for call in (bridge, leads, are_alike, order_paper, lambda *told: is_order_paper(*told, None), Order):
                with self.assertRaises(InvalidOperation):
                    call(one, other)
        for one in (wide, deep, many):
            with self.assertRaises(InvalidOperation):
                copy_table(one)
        for call in (lambda: joined_plan(A, deep, A, None, None), lambda: joined_plan(A, A, deep, None, None),
                     lambda: joined_plan(wide, A, wide, {}, {}), lambda: joined_plan(wide, wide, A, {}, {})):
            with self.assertRaises(InvalidOperation):
                call()
        # Of joined plans the bridge over both ends alone can be too great.
        nine = Promise.read("(([a + a] & [a + a] & [a + a]) & ([a + a] & [a + a]))")
        ten = Promise.read("(([b + a] & [a + a] & [a + a]) & ([a + a] & [a + a] & [a + a]))")
        self.assertEqual([bridge(nine, A).choices, bridge(A, ten).choices], [5, 6])
        with self.assertRaises(InvalidOperation):
            joined_plan(nine, A, ten, {}, {})

    def test_just_at_the_bounds(self):
        self.assertEqual(bridge(chain(7), A).depth, 8)
        half = Promise.read("([a + b] & [c + d] & [e + f] & [a * b])")
        self.assertEqual(len(bridge(half, half).facts), 6)
        nineteen = Promise.read(f"({' & '.join(['(a & a & a & a)'] * 3)} & (a & a))")
        twenty = Promise.read(f"({' & '.join(['(a & a & a & a)'] * 3)} & (a & a & a))")
        self.assertEqual([len(nineteen), len(twenty)], [19, 20])
        self.assertEqual(len(bridge(nineteen, twenty)), 40)
        with self.assertRaises(InvalidOperation):
            bridge(twenty, twenty)


class LeadsTest(unittest.TestCase):
    def test_leads_and_are_alike(self):
        found = {True: 0, False: 0}
        for one, other in PAIRS:
            expected = reference.leads(one.text, other.text)
            found[expected] += 1
            self.assertIs(leads(one, other), expected)
            self.assertIs(are_alike(one, other), expected and reference.leads(other.text, one.text))
            self.assertIs(is_kept(bridge(one, other)), expected)
        self.assertGreater(min(found.values()), 60)

    def test_each_promise_leads_to_itself_and_to_what_its_next_one_leads_to(self):
        for one in SMALL:
            self.assertIs(leads(one, one), True)
            self.assertIs(are_alike(one, one), True)
        before = {(one.text, other.text) for one in SMALL[:14] for other in SMALL[:14] if leads(one, other)}
        for one, middle in before:
            for other in SMALL[:14]:
                if (middle, other.text) in before:
                    self.assertIn((one, other.text), before)

    def test_equal_promises_and_promises_that_differ_by_a_part(self):
        for one in (COPY, PICK, HALF, TWICE.renamed({"b": "a", "c": "b"})):
            self.assertIs(leads(one, Promise.read(one.text)), True)
        self.assertEqual([leads(A, A + PICK), leads(A + PICK, A), leads(A * PICK, A), leads(A, A * PICK)],
                         [True, False, True, True])
        self.assertEqual([are_alike(A + A, A), are_alike(A & A, A), are_alike(PICK & PICK, PICK)], [True, True, True])
        once = Promise.read("[a * b]")
        self.assertEqual([leads(once & once, once), leads(once, once & once), leads(once, once | once)],
                         [True, False, True])

    def test_mine_and_yours(self):
        for one, other in itertools.product(SMALL[:10], repeat=2):
            mine, yours = one + other, one * other
            for part in (one, other):
                self.assertEqual([leads(part, mine), leads(yours, part)], [True, True])
            for third in SMALL[:6]:
                self.assertIs(leads(mine, third), leads(one, third) and leads(other, third))
                self.assertIs(leads(third, yours), leads(third, one) and leads(third, other))

    def test_what_is_said_of_all_and_mine_and_what_is_not_said_of_yours(self):
        for a, b, c in itertools.product(SMALL[:6], repeat=3):
            self.assertIs(are_alike(a & (b + c), (a & b) + (a & c)), True)
        a, b, c = A, Promise.read("b"), Promise.read("c")
        self.assertIs(leads(a & (b * c), (a & b) * (a & c)), True)
        four = [Promise.read(text) for text in ("[a + b]", "[a * b]", "a", "b")]
        self.assertIs(all(leads((x & y) * (x & z), x & (y * z)) for x, y, z in itertools.product(four, repeat=3)), False)


class PaperTest(unittest.TestCase):
    def test_papers(self):
        for one, other in PAIRS:
            word, table = order_paper(one, other)
            self.assertEqual(word, "leads" if leads(one, other) else "not")
            self.assertEqual(list(table), sorted(table))
            whole = bridge(one, other)
            judged = reference.is_plan if word == "leads" else reference.is_counter
            self.assertTrue(judged(whole.text, table))
            self.assertIs((is_plan if word == "leads" else is_counter)(whole, table), True)
            self.assertIs(is_order_paper(one, other, (word, table)), True)
            for bad in (("not" if word == "leads" else "leads", table), (word, table, None), (word,), [word, table],
                        {word: table}, (word, list(table)), (word.upper(), table), ("plan", table), ("counter", table),
                        table, None, (table, word)):
                self.assertIs(is_order_paper(one, other, bad), False)

    def test_papers_made_at_random_and_papers_near_them(self):
        rng = random.Random(42)
        for one, other in PAIRS[::3]:
            whole = bridge(one, other)
            word = "leads" if leads(one, other) else "not"
            hand, judged = ("keeper", reference.is_plan) if word == "leads" else ("caller", reference.is_counter)
            table = reference.random_table(whole.text, hand, rng)
            self.assertIs(is_order_paper(one, other, (word, table)), True)
            key = rng.choice(sorted(table))
            less = {text: told for text, told in table.items() if text != key}
            self.assertIs(is_order_paper(one, other, (word, less)), judged(whole.text, less))
            self.assertIs(is_order_paper(one, other, (word, {**table, key + " ": table[key]})), False)
            swapped = {**table, key: ("rest", ["a"]) if word == "not" else [(0,), 0]}
            self.assertIs(is_order_paper(one, other, (word, swapped)), False)

    def test_all_sorts(self):
        for value in all_sorts():
            for bad in (value, ("leads", value), ("not", value), (value, {})):
                self.assertIs(is_order_paper(A, PICK, bad), False)


class CopyTest(unittest.TestCase):
    def test_copy_tables(self):
        for promise in [*SMALL, COPY, HALF, *[one for one in varied(43, 60, most=2) if len(one) < 20 and one.depth < 8]]:
            table = copy_table(promise)
            self.assertEqual(table, self.copied(promise))
            self.assertEqual(list(table), sorted(table))
            self.assertIs(is_plan(bridge(promise, promise), table), True)
            self.assertIs(is_order_paper(promise, promise, ("leads", table)), True)

    def copied(self, promise):
        """The copy table, told position by position."""
        table = {}
        for text in reference.game(promise.text):
            one = f"({-Promise.read(text)} | {text})"
            table[one] = None
            for (place, index), behind in reference.ways(bridge(promise, promise).text, one, "caller"):
                answer = ((1 - place[0], *place[1:]), index)
                table[behind] = min(answer, table.get(behind, answer))
        return table

    def test_equal_parts_in_one_choice(self):
        self.assertEqual(copy_table(A + A), {"(!a | [a + a])": ((1,), 0), "(!a | a)": None, "([!a * !a] | [a + a])": None})
        self.assertEqual(copy_table(Promise.read("[b * a * b]"))["([!b + !a + !b] | b)"], ((0,), 0))
        self.assertEqual(copy_table(A), {"(!a | a)": None})

    def test_a_plan_that_copies(self):
        self.assertEqual(str(Plan(bridge(PICK, PICK), copy_table(PICK))), "5 positions, 2 calls")

    def test_too_many_positions(self):
        found = copy_table(Promise.read("([a + b] & [a + b] & [a + b] & [c + c])"))
        self.assertEqual(len([told for told in found.values() if told is None]), 3 ** 3 * 2)
        hundred = Promise.read("([a + b] & [a + b] & [a + b] & [c + d + a + b])")
        self.assertEqual(len([told for told in copy_table(hundred).values() if told is None]), 135)
        over = Promise.read("([a + b] & [a + b] & [a + b] & [a + b])")
        more = Promise.read("(([a + b] & [a + b] & [a + b]) & ([a + b] & [c + c]))")
        self.assertEqual(len(reference.game(more.text)), 162)
        for call in (lambda: copy_table(more), lambda: leads(more, more), lambda: bridge(more, more),
                     lambda: are_alike(more, more), lambda: order_paper(more, more), lambda: Order(A, more),
                     lambda: is_order_paper(more, more, None), lambda: joined_plan(more, more, A, None, None)):
            with self.assertRaises(TooMany) as caught:
                call()
            self.assertEqual(caught.exception.limit, 20000)
        self.assertEqual(len(reference.game(over.text)), 81)
        self.assertIs(leads(over, more), False)
        self.assertEqual(bridge(over, more).choices, 9)


class JoinedPlanTest(unittest.TestCase):
    def test_plans_told(self):
        found = 0
        before = {(one, other) for one in range(15) for other in range(15) if leads(SMALL[one], SMALL[other])}
        for at, between, to in itertools.product(range(15), repeat=3):
            if (at, between) in before and (between, to) in before:
                one, middle, other = SMALL[at], SMALL[between], SMALL[to]
                first, second = plan_for(bridge(one, middle)), plan_for(bridge(middle, other))
                table = joined_plan(one, middle, other, first, second)
                self.assertTrue(reference.is_plan(bridge(one, other).text, table))
                self.assertIs(is_order_paper(one, other, ("leads", table)), True)
                found += 1
        self.assertGreater(found, 300)

    def test_plans_with_more_positions_than_are_needed(self):
        first = {"(!a | [a + b])": ((1,), 0), "(!a | a)": None}
        second = copy_table(A + Promise.read("b"))
        table = joined_plan(A, A + Promise.read("b"), A + Promise.read("b"), first, second)
        self.assertIs(is_plan(Promise.read("(!a | [a + b])"), table), True)
        more = {"(!a | a)": None}
        self.assertIs(is_plan(Promise.read("(!a | a)"), joined_plan(A, A, A, more, more)), True)

    def test_plans_made_at_random(self):
        rng = random.Random(44)
        for one, other in near(45, 60, most=2):
            if leads(one, other):
                first = reference.random_table(bridge(one, one).text, "keeper", rng)
                second = reference.random_table(bridge(one, other).text, "keeper", rng)
                table = joined_plan(one, one, other, first, second)
                self.assertIs(is_plan(bridge(one, other), table), True)

    def test_two_plans_exchanged(self):
        more = A + Promise.read("b")
        first, second = plan_for(bridge(A, more)), plan_for(bridge(more, more))
        self.assertIs(is_plan(bridge(A, more), joined_plan(A, more, more, first, second)), True)
        for pair in ((second, first), (first, first), (second, second), (first, {}), (None, second), (first, list(second)),
                     (first, None), (first, {**second, "": None})):
            with self.assertRaises(InvalidPlan):
                joined_plan(A, more, more, *pair)

    def test_first_errors(self):
        for told, error in (((1, A, A, {}, {}), InvalidPromise), ((A, 1, A, {}, {}), InvalidPromise),
                            ((A, chain(8), 1, {}, {}), InvalidPromise), ((A, chain(8), A, {}, {}), InvalidOperation),
                            ((A, A, A, {}, {}), InvalidPlan)):
            with self.assertRaises(error):
                joined_plan(*told)


class OrderTest(unittest.TestCase):
    def judge(self, order, promises):
        """What an order tells, by another reading."""
        many = range(len(promises))
        before = {(at, to) for at in many for to in many if reference.leads(promises[at].text, promises[to].text)}
        self.assertEqual(order.promises, tuple(promises))
        self.assertEqual(order.pairs, tuple(sorted(before)))
        alike = [tuple(to for to in many if {(at, to), (to, at)} <= before) for at in many]
        self.assertEqual(order.classes, tuple(sorted(set(alike))))
        for at in many:
            self.assertEqual(order.above(at), tuple(to for to in many if (at, to) in before and (to, at) not in before))
            self.assertEqual(order.below(at), tuple(to for to in many if (to, at) in before and (at, to) not in before))
        least = [row[0] for row in sorted(set(alike))]
        links = [(at, to) for at in least for to in least if to in order.above(at)
                 and not any(k in order.above(at) and to in order.above(k) for k in least)]
        self.assertEqual(order.links(), tuple(sorted(links)))
        self.assertEqual([len(order), list(order)], [len(promises), list(promises)])
        self.assertEqual(str(order), f"{len(promises)} promises, {len(set(alike))} classes")

    def test_orders(self):
        rng = random.Random(46)
        for many in (1, 2, 3, 4, 6, 6):
            for _ in range(8):
                promises = [rng.choice(SMALL) for _ in range(many)]
                self.judge(Order(*promises), promises)

    def test_equal_ones_and_alike_ones(self):
        order = Order(A, A, A & A, PICK, A + A, PICK)
        self.assertEqual(order.classes, ((0, 1, 2, 4), (3, 5)))
        self.assertEqual([order.above(0), order.below(0), order.above(5), order.links()], [(3, 5), (), (), ((0, 3),)])
        self.assertEqual(str(order), "6 promises, 2 classes")
        self.assertEqual([Order(A).pairs, Order(A).classes, Order(A).links()], [((0, 0),), ((0,),), ()])

    def test_links_with_a_class_between_two_others(self):
        chain_of = [Promise.read(text) for text in ("(a & b)", "a", "(a | b)", "(b & a)", "(a & a)")]
        order = Order(*chain_of)
        self.assertEqual(order.links(), ((0, 1), (1, 2)))
        self.assertEqual([order.above(3), order.below(2)], [(1, 2, 4), (0, 1, 3, 4)])
        self.judge(order, chain_of)

    def test_numbers_of_arguments(self):
        with self.assertRaises(InvalidOperation):
            Order()
        with self.assertRaises(InvalidOperation):
            Order(*[A] * 7)
        with self.assertRaises(InvalidOperation):
            Order(*[1] * 7)
        with self.assertRaises(InvalidPromise):
            Order(A, chain(8), None)
        with self.assertRaises(InvalidOperation):
            Order(chain(8))
        more = Promise.read("(([a + b] & [a + b] & [a + b]) & ([a + b] & [c + c]))")
        with self.assertRaises(InvalidOperation):
            Order(more, chain(8))
        for value in no_promises():
            with self.assertRaises(InvalidPromise):
                Order(A, value)

    def test_with_promise(self):
        order = Order(A)
        for many, promise in enumerate((PICK, A, COPY, A, HALF)):
            longer = order.with_promise(promise)
            self.assertEqual([longer.promises, len(order)], [(*order.promises, promise), many + 1])
            self.judge(longer, longer.promises)
            order = longer
        for value in (A, None, chain(8)):
            with self.assertRaises(InvalidOperation):
                order.with_promise(value)
        with self.assertRaises(InvalidPromise):
            Order(A).with_promise("a")
        self.assertEqual(len(order), 6)

    def test_indices(self):
        order = Order(A, PICK)
        for value in [*all_sorts(), 2, -1, True, False]:
            if type(value) is int and value in (0, 1):
                continue
            for call in (order.above, order.below):
                with self.assertRaises(InvalidNumber) as caught:
                    call(value)
                self.assertIs(type(caught.exception.number), type(value))

    def test_membership_and_equality(self):
        order = Order(A, PICK)
        self.assertEqual([A in order, Promise.read("[a + !a]") in order, COPY in order, -A in order],
                         [True, True, False, False])
        for value in all_sorts():
            self.assertIs(value in order, isinstance(value, Promise) and value.text in ("a", "[a + !a]"))
            if not isinstance(value, Order):
                self.assertIs(order == value, False)
                self.assertIs(order != value, True)
        self.assertIs(order == Order(A, PICK), True)
        self.assertIs(order != Order(A, PICK), False)
        self.assertIs(order == Order(A, PICK, PICK), False)
        self.assertIs(order == Order(A, A), False)
        self.assertEqual(equal_ones(order), ["Order"])

    def test_what_never_changes(self):
        order = Order(A, PICK)
        for name in ("promises", "pairs", "classes"):
            with self.assertRaises(AttributeError):
                setattr(order, name, ())
        with self.assertRaises(TypeError):
            order[0]
        self.assertEqual([order.pairs, order.pairs], [((0, 0), (0, 1), (1, 1))] * 2)

    def test_a_constant_is_no_part_of_the_interface(self):
        self.assertEqual(module.MOST_PROMISES, 6)

    def test_texts_lead_to_themselves(self):
        for text in TEXTS:
            one = Promise.read(text)
            if one.choices <= 3:
                self.assertIs(leads(one, one), True)


if __name__ == "__main__":
    unittest.main()
