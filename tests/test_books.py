"""[13.1] and [13.2]: books, claims, what follows and what is needed for it, and the class `Book`."""

import itertools
import random
import unittest

from eitherhand.base.promises import Promise
from eitherhand.errors import InvalidBook, InvalidNumber, InvalidPromise, NotKept, TooMany
from eitherhand.given.books import (
    Book, book_paper, claim, follows, is_book, is_book_paper, least_parts, needed, without_any,
)
from eitherhand.keep.counters import is_counter
from eitherhand.keep.kept import is_kept
from eitherhand.keep.plans import is_plan
from eitherhand.order.leads import leads
from samples import A, COPY, HALF, PICK, TWICE, all_sorts, chain, equal_ones, no_promises, of_all
import reference

ONCE, BOTH = Promise.read("[b * c]"), Promise.read("([b * c] & [b * c])")
B, C = Promise.fact("b"), Promise.fact("c")
SMALL = [A, B, -A, Promise.sure(), Promise.never(), A & B, A | B, A + B, A * B, PICK, ONCE, (A * B) & A]


def some_books(seed, many):
    """Pairs of a book and a promise, with few choices."""
    rng = random.Random(seed)
    found = []
    while len(found) < many:
        book = tuple(rng.choice(SMALL) for _ in range(rng.choice((1, 2, 2, 3))))
        promise = rng.choice([*SMALL, *book, of_all(*book) if len(book) > 1 else book[0]])
        if sum(one.choices for one in (*book, promise)) <= 5:
            found.append((book, promise))
    return found


def does_follow(book, promise):
    """Whether a promise follows, or is kept by itself, by another reading than the program's own."""
    if book == ():
        return promise.text in reference.kept(promise.text)
    text = f"({' | '.join([str(-one) for one in book])} | {promise})"
    return text in reference.kept(text)


BOOKS = some_books(71, 150)
PAIRS = [*BOOKS, ((ONCE,), BOTH), ((ONCE, ONCE), BOTH), ((ONCE, BOTH), ONCE), ((ONCE, B), B), ((PICK,), A)]


class ClaimTest(unittest.TestCase):
    def test_books(self):
        for value in all_sorts():
            fine = isinstance(value, tuple) and len(value) in (1, 2, 3) and all(isinstance(one, Promise) for one in value)
            self.assertIs(is_book(value), fine)
        for many in range(6):
            self.assertIs(is_book((A,) * many), 1 <= many <= 3)
        for value in ([A], (A, "a"), (A, None, A), ("a",), A, {A.text: A}, Book((A,)), (Book((A,)),), ((A,),)):
            self.assertIs(is_book(value), False)

    def test_claims(self):
        for book, promise in PAIRS:
            found = claim(book, promise)
            self.assertEqual(found.parts, (*[-one for one in book], promise))
            self.assertEqual(found.kind, "some")

    def test_no_such_claim(self):
        wide = Promise.read(f"({' & '.join(['(a & a & a & a)'] * 4)})")
        many = Promise.read("(([a + a] & [a + a] & [a + a]) | ([a + a] & [a + a] & [a + a]))")
        for book, promise in (((wide,), wide), ((A,), chain(8)), ((chain(8),), A), ((many, A), many),
                              ((Promise.read("(a & b & c)"), Promise.read("(d & e)")), Promise.read("(f & g)"))):
            for call in (claim, follows, needed, least_parts, book_paper, without_any,
                         lambda *told: is_book_paper(*told, None), lambda *told: Book(told[0]).keeps(told[1])):
                with self.assertRaises(InvalidPromise):
                    call(book, promise)

    def test_errors(self):
        for call in (claim, follows, needed, least_parts, book_paper, without_any, lambda *told: is_book_paper(*told, None)):
            for value in [one for one in all_sorts() if not is_book(one)] + [[A], (A,) * 4, Book((A,))]:
                for promise in (A, None):
                    with self.assertRaises(InvalidBook):
                        call(value, promise)
            for value in no_promises():
                with self.assertRaises(InvalidPromise):
                    call((A,), value)

    def test_too_many_positions(self):
        more = Promise.read("(([a + b] & [a + b] & [a + b]) & ([a + b] & [c + c]))")
        self.assertEqual(claim((more,), more).choices, 10)
        for call in (follows, needed, least_parts, book_paper, without_any, lambda *told: is_book_paper(*told, None),
                     lambda *told: Book(told[0]).keeps(told[1])):
            with self.assertRaises(TooMany) as caught:
                call((more,), more)
            self.assertEqual(caught.exception.limit, 20000)


class FollowsTest(unittest.TestCase):
    def test_follows(self):
        found = {True: 0, False: 0}
        for book, promise in PAIRS:
            expected = does_follow(book, promise)
            found[expected] += 1
            self.assertIs(follows(book, promise), expected)
            self.assertIs(is_kept(claim(book, promise)), expected)
        self.assertGreater(min(found.values()), 40)
        for one, other in itertools.product(SMALL, repeat=2):
            self.assertIs(follows((one,), other), leads(one, other))

    def test_the_same_promise_given_once_and_twice(self):
        self.assertEqual([follows((ONCE,), BOTH), follows((ONCE, ONCE), BOTH), follows((ONCE, ONCE, ONCE), BOTH)],
                         [False, True, True])
        self.assertEqual([follows((B + C,), (B + C) & (B + C)), follows((A,), A & A)], [True, True])

    def test_more_is_given(self):
        for book, promise in PAIRS:
            if len(book) < 3 and follows(book, promise):
                for one in (A, B, A * B):
                    self.assertIs(follows((*book, one), promise), True)
                    self.assertIs(follows((one, *book), promise), True)

    def test_needed(self):
        for book, promise in PAIRS:
            if not does_follow(book, promise):
                with self.assertRaises(NotKept) as caught:
                    needed(book, promise)
                self.assertEqual(caught.exception.wanted, claim(book, promise).text)
                continue
            expected = tuple(at for at in range(len(book)) if not does_follow(book[:at] + book[at + 1:], promise))
            self.assertEqual(needed(book, promise), expected)

    def test_least_parts(self):
        lengths = set()
        for book, promise in PAIRS:
            every = reference.sets_of(range(len(book)))
            enough = [one for one in every if does_follow(tuple(book[at] for at in one), promise)]
            expected = tuple(sorted(one for one in enough if not any(set(other) < set(one) for other in enough)))
            self.assertEqual(least_parts(book, promise), expected)
            lengths.add(expected)
        self.assertLessEqual({(), ((),), ((0,),), ((0, 1),)}, lengths)
        self.assertEqual([least_parts((A, B), Promise.sure()), least_parts((A,), B), least_parts((A, A, B), A)],
                         [((),), (), ((0,), (1,))])
        self.assertEqual(least_parts((A, B, A & B), A & B), ((0, 1), (2,)))

    def test_without_any(self):
        for book, promise in PAIRS:
            expected = tuple(does_follow(book[:at] + book[at + 1:], promise) for at in range(len(book)))
            self.assertEqual(without_any(book, promise), expected)
        self.assertEqual([without_any((A,), Promise.sure()), without_any((A,), A), without_any((A, B, A), A)],
                         [(True,), (False,), (True, True, True)])

    def test_papers(self):
        for book, promise in PAIRS:
            word, table = book_paper(book, promise)
            self.assertEqual(word, "follows" if does_follow(book, promise) else "not")
            whole = claim(book, promise)
            self.assertTrue((reference.is_plan if word == "follows" else reference.is_counter)(whole.text, table))
            self.assertIs((is_plan if word == "follows" else is_counter)(whole, table), True)
            self.assertEqual(list(table), sorted(table))
            self.assertIs(is_book_paper(book, promise, (word, table)), True)
            less = {text: told for text, told in table.items() if text != whole.text}
            for bad in (("not" if word == "follows" else "follows", table), (word, table, 0), (word,), [word, table], table,
                        (word, less), (word, list(table)), ("plan", table), (word, {**table, "": None})):
                self.assertIs(is_book_paper(book, promise, bad), False)
        for value in all_sorts():
            for bad in (value, ("follows", value), ("not", value), (value, {})):
                self.assertIs(is_book_paper((A,), PICK, bad), False)

    def test_papers_made_at_random(self):
        rng = random.Random(72)
        for book, promise in PAIRS[::2]:
            text = claim(book, promise).text
            hand = "keeper" if does_follow(book, promise) else "caller"
            table = reference.random_table(text, hand, rng)
            word = "follows" if hand == "keeper" else "not"
            self.assertIs(is_book_paper(book, promise, (word, table)), True)


class BookTest(unittest.TestCase):
    def test_what_a_book_has(self):
        for book, promise in PAIRS:
            made = Book(book)
            self.assertEqual([made.promises, len(made), list(made)], [book, len(book), list(book)])
            self.assertEqual(made.facts, tuple(sorted({fact for one in book for fact in one.facts})))
            self.assertEqual(str(made), "; ".join([one.text for one in book]))
            self.assertIs(made.keeps(promise), does_follow(book, promise))
            self.assertEqual([made[at] for at in range(len(book))], list(book))
        self.assertEqual(Book((Promise.read("(a & b & c & d)"), Promise.read("(e & f & g & h)"))).facts, tuple("abcdefgh"))

    def test_no_books(self):
        for value in [*[one for one in all_sorts() if not is_book(one)], [A], (A,) * 4, (), Book((A,))]:
            with self.assertRaises(InvalidBook):
                Book(value)

    def test_with_given(self):
        one = Book((A,))
        two = one.with_given(PICK)
        three = two.with_given(A)
        self.assertEqual([one.promises, two.promises, three.promises], [(A,), (A, PICK), (A, PICK, A)])
        for value in no_promises():
            for book in (one, three):
                with self.assertRaises(InvalidPromise):
                    book.with_given(value)
        with self.assertRaises(InvalidBook):
            three.with_given(A)

    def test_without_given(self):
        book = Book((A, PICK, COPY))
        self.assertEqual([book.without_given(at).promises for at in range(3)], [(PICK, COPY), (A, COPY), (A, PICK)])
        for value in [*all_sorts(), 3, -1, True, False]:
            if type(value) is int and value in (0, 1, 2):
                continue
            for call in (book.without_given, lambda index: book[index]):
                with self.assertRaises(InvalidNumber) as caught:
                    call(value)
                self.assertEqual(caught.exception.number, value)
                self.assertIs(type(caught.exception.number), type(value))
        with self.assertRaises(InvalidBook):
            Book((A,)).without_given(0)
        with self.assertRaises(InvalidNumber):
            Book((A,)).without_given(1)

    def test_joined(self):
        self.assertEqual([Book((PICK,)).joined(), Book((A, PICK)).joined().text, Book((A, B, C)).joined().text],
                         [PICK, "(a & [a + !a])", "(a & b & c)"])
        for book, promise in BOOKS:
            joined = Book(book).joined()
            self.assertIs(leads(joined, promise), does_follow(book, promise))
        for book in ((chain(8), A), (Promise.read("(a & b & c & d)"), Promise.read("(e & f & g & h)"))):
            with self.assertRaises(InvalidPromise):
                Book(book).joined()
        self.assertEqual(Book((chain(8),)).joined(), chain(8))

    def test_keeps(self):
        with self.assertRaises(InvalidPromise):
            Book((A,)).keeps(None)
        with self.assertRaises(InvalidPromise):
            Book((A,)).keeps(chain(8))

    def test_membership_and_equality(self):
        book = Book((A, PICK))
        self.assertEqual([A in book, Promise.read("[a + !a]") in book, B in book, "a" in book], [True, True, False, False])
        for value in all_sorts():
            self.assertIs(value in book, isinstance(value, Promise) and value.text in ("a", "[a + !a]"))
            if not isinstance(value, Book):
                self.assertIs(book == value, False)
                self.assertIs(book != value, True)
        self.assertIs(book == Book((A, PICK)), True)
        self.assertIs(book != Book((A, PICK)), False)
        self.assertEqual([book == Book((PICK, A)), book == Book((A,)), book == (A, PICK)], [False, False, False])
        self.assertEqual(equal_ones(book), ["Book"])

    def test_what_never_changes(self):
        book = Book((A, HALF, TWICE))
        for name in ("promises", "facts"):
            with self.assertRaises(AttributeError):
                setattr(book, name, ())
        book.without_given(0)
        self.assertEqual(book.promises, (A, HALF, TWICE))


if __name__ == "__main__":
    unittest.main()
