"""[14.1] and [14.2]: projects, their changes, news and pinned sayings."""

import random
import unittest

from eitherhand.base.places import called, calls
from eitherhand.base.promises import Promise
from eitherhand.errors import (
    InvalidBook, InvalidCall, InvalidNumber, InvalidOperation, InvalidPromise, InvalidWord, NothingToUndo, PromiseError,
    Refused, TooMany, UnknownFact,
)
from eitherhand.keep.fewest import need
from eitherhand.keep.kept import is_kept
from eitherhand.order.leads import are_alike, leads
from eitherhand.use.project import Project
from samples import A, COPY, HALF, PICK, TWICE, all_sorts, chain, equal_ones, no_promises
from test_limits import FOURS

SURE, NEVER, B = Promise.sure(), Promise.never(), Promise.fact("b")
OWN = (Refused, TooMany, UnknownFact, NothingToUndo, InvalidNumber, PromiseError)
WRONG_SAYINGS = [
    ("kept",), ("kept", "more"), ("kept", "copy", "pick"), ["kept", "copy"], ("Kept", "copy"), ("held", "copy"), ("kept", ["copy"]),
    ("kept", ("copy",)), ("leads", "copy"), ("leads", "copy", "more"), ("leads", "more", "copy"), ("leads", "copy", "pick", "copy"),
    ("alike", "copy"), ("alike", "copy", 1), ("need", "copy"), ("need", "copy", -1), ("need", "copy", 11), ("need", "copy", True),
    ("need", "copy", False), ("need", "copy", 10 ** 60), ("need", "more", 1), ("need", 1, "copy"), ("need", "copy", "1"),
    ("need", "copy", None), ("need", "copy", 1, 1), ("need", "copy", [1]), ("kept", None), ("copy", "kept"), (), ("copy",), "kept",
    "kept copy", None, 0, {"kept": "copy"}, (("kept", "copy"),), (None, "copy"), (["kept"], "copy"), ("leads", ["copy"], "pick"),
    ("barred", "copy", 1), ("kept", True), ("leads", "copy", 5),
]


def two():
    """A project of two promises."""
    return Project({"pick": PICK, "copy": COPY})


def holds(promises, saying):
    """Whether a saying holds, by other functions."""
    word, *told = saying
    if word in ("kept", "barred"):
        return is_kept(promises[told[0]]) == (word == "kept")
    if word == "need":
        return need(promises[told[0]]) <= told[1]
    one, other = promises[told[0]], promises[told[1]]
    return leads(one, other) if word == "leads" else are_alike(one, other)


def news(before, behind):
    """The news between two dicts of promises."""
    found = [(name, "new") for name in behind if name not in before]
    found += [(name, "gone") for name in before if name not in behind]
    for name in set(before) & set(behind):
        if is_kept(before[name]) != is_kept(behind[name]):
            found.append((name, "kept" if is_kept(behind[name]) else "barred"))
    return tuple(sorted(found))


class ProjectTest(unittest.TestCase):
    def state(self, project):
        """All that can be seen of a project, what can be done again, too."""
        again, words = project.twin(), []
        while True:
            try:
                again.redo()
                words.append((again.promises, again.sayings, again.log))
            except NothingToUndo:
                break
        return (project.promises, list(project.promises), project.sayings, project.log, list(project), len(project), str(project), words)

    def refused(self, error, project, call):
        """The error of a call, behind which nothing is changed."""
        before = self.state(project)
        with self.assertRaises(error) as caught:
            call()
        self.assertIs(type(caught.exception), error)
        self.assertEqual(self.state(project), before)
        return caught.exception

    def test_what_a_project_has(self):
        project = two()
        self.assertEqual([project.promises, list(project.promises), project.sayings, project.log],
                         [{"copy": COPY, "pick": PICK}, ["copy", "pick"], (), ()])
        self.assertEqual([list(project), len(project), str(project)], [["copy", "pick"], 2, "2 promises, 0 sayings"])
        six = Project({name: A for name in ("f", "a", "kept", "need", "pin", "abcdefgh")})
        self.assertEqual(list(six), ["a", "abcdefgh", "f", "kept", "need", "pin"])

    def test_no_projects(self):
        for value in [*all_sorts(), {"A": A}, {"yes": A}, {"a": "a"}, {1: A}, {"a": A, "b": None}, {("a",): A}, {"nineletter": A},
                      {name: A for name in "abcdefg"}, [("a", A)], {"": A}, {None: A}, {"a": (A,)}]:
            with self.assertRaises(InvalidBook):
                Project(value)

    def test_put(self):
        project = two()
        self.assertEqual([project.put("more", A), project.log, len(project)], [(("more", "new"),), ("put",), 3])
        self.assertEqual([project.put("more", SURE), project.put("more", COPY), project.put("more", NEVER)],
                         [(("more", "kept"),), (), (("more", "barred"),)])
        self.assertEqual([project.put("more", NEVER), project.put("all", SURE), list(project)],
                         [(), (("all", "new"),), ["all", "copy", "more", "pick"]])
        for value in [*[one for one in all_sorts() if one not in ("a", "rain", "all", "some", "mine", "yours", "fact", "not",
                                                                    "keeper", "caller")], "A", "nineletter"]:
            for promise in (A, None):
                self.refused(InvalidWord, project, lambda: project.put(value, promise))
        for value in no_promises():
            self.refused(InvalidPromise, project, lambda: project.put("copy", value))

    def test_remove(self):
        project = two()
        self.assertEqual([project.remove("pick"), project.promises, project.log], [(("pick", "gone"),), {"copy": COPY}, ("remove",)])
        self.refused(InvalidBook, project, lambda: project.remove("copy"))
        for value in [*all_sorts(), "pick", "Copy"]:
            self.assertEqual(self.refused(UnknownFact, project, lambda: project.remove(value)).asked, value)

    def test_rename(self):
        project = two()
        self.assertEqual([project.rename("pick", "every"), project.promises],
                         [(("every", "new"), ("pick", "gone")), {"copy": COPY, "every": PICK}])
        self.assertEqual([project.rename("copy", "copy"), project.log], [(), ("rename", "rename")])
        self.refused(InvalidOperation, project, lambda: project.rename("copy", "every"))
        for value in (*all_sorts(), "pick"):
            for other in ("more", "copy", "A", None):
                self.assertEqual(self.refused(UnknownFact, project, lambda: project.rename(value, other)).asked, value)
        for value in ("A", "", "yes", None, 1, ["a"], ("a",), "nineletter", True):
            self.refused(InvalidWord, project, lambda: project.rename("copy", value))

    def test_names_exchanged_there_and_back(self):
        project = two()
        project.pin(("leads", "copy", "copy"))
        before = project.promises
        for one, other in (("copy", "c"), ("pick", "copy"), ("c", "pick")):
            project.rename(one, other)
        self.assertEqual([project.promises, project.sayings], [{"copy": PICK, "pick": COPY}, (("leads", "pick", "pick"),)])
        for one, other in (("copy", "c"), ("pick", "copy"), ("c", "pick")):
            project.rename(one, other)
        self.assertEqual([project.promises, project.sayings], [before, (("leads", "copy", "copy"),)])
        self.assertEqual(project.undo(many=3), (("copy", "barred"), ("pick", "kept")))
        self.assertEqual(project.redo(many=3), (("copy", "kept"), ("pick", "barred")))

    def test_names_like_the_words_of_sayings(self):
        project = Project({"kept": COPY, "leads": PICK, "need": HALF})
        for saying in (("kept", "kept"), ("leads", "leads", "leads"), ("need", "need", 1), ("alike", "kept", "kept")):
            project.pin(saying)
        self.assertEqual(project.rename("kept", "leader"), (("kept", "gone"), ("leader", "new")))
        project.rename("leads", "kept")
        project.rename("need", "alike")
        self.assertEqual(project.sayings, (("kept", "leader"), ("leads", "kept", "kept"), ("need", "alike", 1),
                                           ("alike", "leader", "leader")))
        self.assertIs(all(project.does_hold(saying) for saying in project.sayings), True)

    def test_call(self):
        project = two()
        self.assertEqual([project.call("copy", (1,), 0), project.promises["copy"]], [(), HALF])
        self.assertEqual([project.call("copy", (0,), 1), project.promises["copy"].text], [(("copy", "barred"),), "(b | !a)"])
        self.assertEqual([project.undo(), project.call("copy", (0,), 0)], [(("copy", "kept"),), ()])
        self.assertEqual([project.call("pick", (), 1), project.promises["pick"].text], [(), "!a"])
        self.assertEqual(Project({"a": NEVER + SURE * NEVER}).call("a", (), 0), ())
        self.assertEqual(Project({"a": NEVER + SURE}).call("a", (), 0), (("a", "barred"),))
        self.assertEqual(Project({"a": (NEVER * SURE) & A | SURE}).call("a", (0, 0), 0), ())
        self.assertEqual(Project({"a": NEVER * SURE}).call("a", (), 1), (("a", "kept"),))
        for place, index in [((), 0), ((0,), True), ([0], 0), ((3,), 0), (None, 0), (0, 0), ((True,), 0), ((0,), 5), ((0,), -1)]:
            self.refused(InvalidCall, project, lambda: project.call("copy", place, index))
        for value in all_sorts():
            self.assertEqual(self.refused(UnknownFact, project, lambda: project.call(value, (9,), 9)).asked, value)
            self.refused(InvalidCall, project, lambda: project.call("copy", value, 0))

    def test_pin_and_unpin(self):
        project = two()
        some = [("kept", "copy"), ("barred", "pick"), ("leads", "copy", "copy"), ("alike", "pick", "pick"), ("need", "copy", 1),
                ("need", "copy", 10), ("leads", "pick", "copy")]
        for at, saying in enumerate(some):
            self.assertIs(project.does_hold(saying), True)
            self.assertEqual(project.pin(saying), ())
            self.assertEqual([project.sayings, project.log], [tuple(some[:at + 1]), ("pin",) * (at + 1)])
            self.refused(InvalidOperation, project, lambda: project.pin(saying))
        for saying in (some[2], some[0], some[-1]):
            self.assertEqual(project.unpin(saying), ())
            self.assertNotIn(saying, project.sayings)
            self.refused(InvalidOperation, project, lambda: project.unpin(saying))
        self.assertEqual([project.sayings, str(project)], [(some[1], some[3], some[4], some[5]), "2 promises, 4 sayings"])
        for call in (project.unpin, project.pin, project.does_hold):
            self.refused(InvalidOperation, project, lambda: call(("need", "copy", True)))
        self.assertEqual(project.log, ("pin",) * 7 + ("unpin",) * 3)

    def test_sayings_that_do_not_hold(self):
        project = two()
        for saying in (("kept", "pick"), ("barred", "copy"), ("leads", "copy", "pick"), ("alike", "copy", "pick"), ("need", "copy", 0),
                       ("need", "pick", 10)):
            self.assertIs(project.does_hold(saying), False)
            self.assertEqual(self.refused(Refused, project, lambda: project.pin(saying)).cause, saying)

    def test_values_that_are_no_sayings(self):
        project = two()
        for value in [*WRONG_SAYINGS, *all_sorts()]:
            for call in (project.pin, project.unpin, project.does_hold):
                self.refused(InvalidOperation, project, lambda: call(value))

    def test_does_hold(self):
        promises = {"a": A, "b": B, "copy": COPY, "half": HALF, "sure": SURE, "two": A + B}
        project = Project(promises)
        names = sorted(promises)
        sayings = [(word, name) for word in ("kept", "barred") for name in names]
        sayings += [(word, one, other) for word in ("leads", "alike") for one in names for other in names]
        sayings += [("need", name, many) for name in names for many in range(11)]
        found = {True: 0, False: 0}
        for saying in sayings:
            found[holds(promises, saying)] += 1
            self.assertIs(project.does_hold(saying), holds(promises, saying))
        self.assertGreater(min(found.values()), 20)
        self.assertEqual(project.log, ())

    def test_a_change_that_would_break_the_second_of_three_pinned_sayings(self):
        project = two()
        some = (("leads", "copy", "copy"), ("need", "copy", 1), ("barred", "pick"))
        for saying in some:
            project.pin(saying)
        for promise in (PICK, (COPY & COPY.renamed({"a": "c", "b": "d"})), NEVER):
            self.assertEqual(self.refused(Refused, project, lambda: project.put("copy", promise)).cause, some[1])
        self.assertEqual(self.refused(Refused, project, lambda: project.call("copy", (0,), 0)).cause, some[1])
        self.assertEqual(self.refused(Refused, project, lambda: project.put("pick", SURE)).cause, some[2])
        self.assertEqual([project.put("copy", HALF), project.put("copy", SURE), project.call("pick", (), 0)], [(), (), ()])
        self.assertEqual(project.sayings, some)

    def test_what_comes_first_of_two_errors(self):
        project = two()
        project.pin(("kept", "copy"))
        self.refused(InvalidOperation, project, lambda: project.remove("copy"))
        project.remove("pick")
        self.refused(InvalidBook, project, lambda: project.remove("copy"))
        project = two()
        for many in range(10):
            project.pin(("need", "copy", many + 1))
        # More sayings come ahead of what does not hold, and what is no saying comes ahead of that.
        self.assertEqual(self.refused(TooMany, project, lambda: project.pin(("need", "copy", 0))).limit, 10)
        self.assertEqual(self.refused(TooMany, project, lambda: project.pin(("kept", "pick"))).limit, 10)
        self.refused(InvalidOperation, project, lambda: project.pin(("kept", "more")))
        self.refused(InvalidOperation, project, lambda: project.pin(("need", "copy", 3)))
        project = Project({name: A for name in "abcdef"})
        project.pin(("barred", "a"))
        self.assertEqual(self.refused(TooMany, project, lambda: project.put("g", SURE)).limit, 6)
        self.refused(InvalidPromise, project, lambda: project.put("g", None))
        self.assertEqual(self.refused(Refused, project, lambda: project.put("a", SURE)).cause, ("barred", "a"))
        self.refused(InvalidOperation, project, lambda: project.rename("a", "b"))
        # A name that would be lacking comes ahead of what another saying, pinned ahead of it, would say.
        project = Project({"a": A, "b": B})
        project.pin(("leads", "a", "a"))
        self.refused(InvalidOperation, project, lambda: project.remove("a"))

    def test_what_asking_a_pinned_saying_raises(self):
        project = Project({"a": A, "b": A, "c": A})
        for saying in (("barred", "b"), ("leads", "a", "a"), ("leads", "a", "c")):
            project.pin(saying)
        self.refused(InvalidOperation, project, lambda: project.put("a", chain(8)))
        self.assertEqual(self.refused(TooMany, project, lambda: project.put("b", FOURS)).limit, 20000)
        self.assertEqual(self.refused(Refused, project, lambda: project.put("b", SURE)).cause, ("barred", "b"))
        self.refused(InvalidOperation, project, lambda: project.pin(("alike", "c", "zz")))
        project = Project({"a": chain(8), "b": A, "more": FOURS})
        self.refused(InvalidOperation, project, lambda: project.pin(("leads", "a", "b")))
        self.refused(InvalidOperation, project, lambda: project.does_hold(("alike", "b", "a")))
        for saying in (("kept", "more"), ("barred", "more"), ("need", "more", 3)):
            self.assertEqual(self.refused(TooMany, project, lambda: project.pin(saying)).limit, 20000)
            self.assertEqual(self.refused(TooMany, project, lambda: project.does_hold(saying)).limit, 20000)

    def test_a_promise_with_many_positions_is_not_asked_without_need(self):
        project = two()
        self.assertEqual([project.put("more", FOURS), project.rename("more", "much"), project.put("much", FOURS), project.remove("much")],
                         [(("more", "new"),), (("more", "gone"), ("much", "new")), (), (("much", "gone"),)])
        self.assertEqual(project.undo(many=4), ())
        self.assertEqual(self.refused(TooMany, project, lambda: project.put("copy", FOURS)).limit, 20000)

    def test_names_and_sayings_at_the_bounds(self):
        project = two()
        for name in ("a", "b", "c", "d"):
            self.assertEqual(project.put(name, A), ((name, "new"),))
        self.assertEqual(self.refused(TooMany, project, lambda: project.put("e", A)).limit, 6)
        self.assertEqual([project.put("d", COPY), project.rename("d", "e")], [(("d", "kept"),), (("d", "gone"), ("e", "new"))])
        project.remove("e")
        self.assertEqual(project.put("f", A), (("f", "new"),))
        for many in range(10):
            self.assertEqual(project.pin(("need", "copy", many + 1)), ())
        self.assertEqual(self.refused(TooMany, project, lambda: project.pin(("kept", "copy"))).limit, 10)
        project.unpin(("need", "copy", 1))
        self.assertEqual([project.pin(("kept", "copy")), len(project.sayings)], [(), 10])

    def test_two_hundred_changes(self):
        project = two()
        for at in range(200):
            project.put("pick", A if at % 2 else B)
        self.assertEqual(len(project.log), 200)
        for call in (lambda: project.put("pick", A), lambda: project.remove("pick"), lambda: project.rename("pick", "pick"),
                     lambda: project.call("copy", (1,), 0), lambda: project.pin(("kept", "copy")), lambda: project.put("more", A)):
            self.assertEqual(self.refused(TooMany, project, call).limit, 200)
        self.refused(InvalidOperation, project, lambda: project.unpin(("kept", "copy")))
        self.assertEqual(self.refused(TooMany, project, lambda: project.trial(("put", "pick", A))).limit, 200)
        self.assertEqual([project.undo(), project.put("pick", SURE), len(project.log)], [(), (("pick", "kept"),), 200])
        self.assertEqual(self.refused(TooMany, project, lambda: project.put("pick", A)).limit, 200)
        self.assertEqual([project.undo(many=200), project.log, project.promises["pick"]], [(("pick", "barred"),), (), PICK])
        self.assertEqual([project.redo(many=200), len(project.log)], [(("pick", "kept"),), 200])

    def test_undo_and_redo(self):
        project = two()
        project.put("more", A)
        project.put("copy", NEVER)
        project.remove("pick")
        project.pin(("barred", "copy"))
        behind = project.twin()
        self.assertEqual([project.undo(), project.sayings], [(), ()])
        self.assertEqual([project.undo(many=2), project.log], [(("copy", "kept"), ("pick", "new")), ("put",)])
        self.assertEqual([project.undo(many=0), project.redo(many=0)], [(), ()])
        self.assertEqual([project.undo(), project == two()], [(("more", "gone"),), True])
        self.assertEqual(self.refused(NothingToUndo, project, project.undo).amount, 1)
        self.assertEqual(self.refused(NothingToUndo, project, lambda: project.redo(many=5)).amount, 5)
        self.assertEqual(project.redo(many=4), (("copy", "barred"), ("more", "new"), ("pick", "gone")))
        self.assertEqual([project == behind, project.log], [True, ("put", "put", "remove", "pin")])
        self.assertEqual(self.refused(NothingToUndo, project, project.redo).amount, 1)
        self.assertEqual(self.refused(NothingToUndo, project, lambda: project.undo(many=5)).amount, 5)
        for value in [*all_sorts(), -1, True, False, 10 ** 60]:
            if type(value) is int and 0 <= value < 10 ** 60:
                continue
            for call in (project.undo, project.redo):
                error = self.refused(InvalidNumber, project, lambda: call(many=value))
                self.assertIs(type(error.number), type(value))
        for call in (project.undo, project.redo):
            with self.assertRaises(TypeError):
                call(1)

    def test_a_change_behind_undo(self):
        project = two()
        project.put("more", A)
        project.put("less", B)
        project.undo(many=2)
        # A change that is refused lets all be done again still.
        self.refused(Refused, project, lambda: project.pin(("kept", "pick")))
        project.redo()
        self.assertEqual(project.put("half", HALF), (("half", "new"),))
        self.assertEqual(self.refused(NothingToUndo, project, project.redo).amount, 1)
        self.assertEqual([project.log, list(project)], [("put", "put"), ["copy", "half", "more", "pick"]])
        self.assertEqual([project.redo(many=0), project.undo(many=2)], [(), (("half", "gone"), ("more", "gone"))])

    def test_trial(self):
        project = two()
        project.pin(("kept", "copy"))
        before = self.state(project)
        self.assertEqual(project.trial(), ())
        self.assertEqual(
            project.trial(("put", "more", A), ("rename", "more", "less"), ("pin", ("barred", "less")), ("call", "copy", (1,), 0),
                          ("unpin", ("kept", "copy")), ("call", "copy", (0,), 1), ("remove", "pick")),
            ((("more", "new"),), (("less", "new"), ("more", "gone")), (), (), (), (("copy", "barred"),), (("pick", "gone"),)))
        self.assertEqual(self.state(project), before)
        self.assertEqual(self.refused(Refused, project, lambda: project.trial(("put", "more", A), ("put", "copy", A))).cause, ("kept", "copy"))
        self.assertEqual(self.refused(UnknownFact, project, lambda: project.trial(("remove", "pick"), ("remove", "pick"))).asked, "pick")
        self.refused(InvalidBook, project, lambda: project.trial(("remove", "pick"), ("unpin", ("kept", "copy")), ("remove", "copy")))
        self.refused(InvalidWord, project, lambda: project.trial(("put", "A", A)))
        self.refused(InvalidPromise, project, lambda: project.trial(("put", "a", 1)))
        self.refused(InvalidCall, project, lambda: project.trial(("call", "copy", (1,), True)))

    def test_trials_of_another_form(self):
        project = two()
        for value in [*all_sorts(), ("put",), ("put", "a"), ("put", "a", A, A), ["remove", "pick"], ("Remove", "pick"), ("undo",), ("undo", 1),
                      ("redo", 1), ("twin",), ("trial", ()), ("does_hold", ("kept", "copy")), ("pin",), ("pin", "kept", "copy"),
                      ("call", "copy", (1,)), ("call", "copy", ((1,), 0)), ("rename", "copy"), ("remove",), ("unpin",), (("remove",), "pick"),
                      (None, "pick"), "remove", ("_change", "put", {}, ()), (["remove"], "pick")]:
            self.refused(InvalidOperation, project, lambda: project.trial(value))
            self.refused(InvalidOperation, project, lambda: project.trial(("remove", "none"), value))
            self.refused(InvalidOperation, project, lambda: project.trial(value, ("remove", "pick")))

    def test_twin(self):
        project = two()
        project.put("more", A)
        project.pin(("kept", "copy"))
        project.undo()
        twin = project.twin()
        self.assertEqual([twin == project, self.state(twin) == self.state(project)], [True, True])
        twin.redo()
        twin.put("copy", SURE)
        self.assertEqual([project.promises["copy"], project.sayings, project.log], [COPY, (), ("put",)])
        self.assertEqual([project.redo(), project.sayings, twin == project], [(), (("kept", "copy"),), False])
        project.remove("pick")
        self.assertEqual([len(twin), len(project)], [3, 2])

    def test_no_state_is_shared(self):
        given = {"a": A}
        project = Project(given)
        given["b"] = B
        found = project.promises
        found.clear()
        self.assertEqual([project.promises, len(project)], [{"a": A}, 1])
        names = iter(project)
        project.put("b", B)
        self.assertEqual([list(names), list(project)], [["a"], ["a", "b"]])
        saying = ("kept", "a")
        error = self.refused(Refused, project, lambda: project.pin(saying))
        self.assertEqual(error.cause, saying)
        self.assertEqual(given, {"a": A, "b": B})

    def test_membership_and_equality(self):
        project = two()
        for value in [*all_sorts(), "copy", "pick", "Copy", COPY, ("copy",), ["copy"]]:
            self.assertIs(value in project, value in ("copy", "pick") if isinstance(value, str) else False)
            if not isinstance(value, Project):
                self.assertEqual([project == value, project != value], [False, True])
        other = two()
        self.assertEqual([project == other, project != other], [True, False])
        project.put("copy", COPY)
        self.assertIs(project == other, True)
        project.pin(("kept", "copy"))
        self.assertIs(project == other, False)
        other.pin(("kept", "copy"))
        self.assertIs(project == other, True)
        for one, first, second in ((project, ("barred", "pick"), ("need", "copy", 2)), (other, ("need", "copy", 2), ("barred", "pick"))):
            one.pin(first)
            one.pin(second)
        self.assertIs(project == other, False)
        made = two()
        made.pin(("kept", "copy"))
        self.assertEqual(equal_ones(made), ["Project"])
        for name in ("promises", "sayings", "log"):
            with self.assertRaises(AttributeError):
                setattr(project, name, ())

    def test_news_of_all_four_words(self):
        project = Project({"b": COPY, "c": PICK, "d": A})
        before = project.promises
        for change in (lambda: project.put("b", NEVER), lambda: project.put("c", SURE), lambda: project.remove("d"), lambda: project.put("a", A)):
            change()
        expected = (("a", "gone"), ("b", "kept"), ("c", "barred"), ("d", "new"))
        self.assertEqual(project.undo(many=4), expected)
        self.assertEqual(project.promises, before)
        self.assertEqual(project.redo(many=4), (("a", "new"), ("b", "barred"), ("c", "kept"), ("d", "gone")))

    def test_sessions(self):
        rng = random.Random(111)
        pool = [A, B, SURE, NEVER, COPY, PICK, HALF, A + B, A * B, A & B, A | B, TWICE.renamed({"b": "a", "c": "b"})]
        done = {True: 0, False: 0}
        for _ in range(30):
            project = Project({name: rng.choice(pool) for name in rng.sample("abcd", 2)})
            model = [(project.promises, ())]
            at = 0
            for _ in range(20):
                promises, sayings = model[at]
                change = self.any_change(project, rng, pool)
                if change is None:
                    many = rng.randrange(at + 1)
                    self.assertEqual(project.undo(many=many), news(promises, model[at - many][0]))
                    at -= many
                    continue
                expected = self.after(promises, sayings, change)
                done[expected is not None] += 1
                if expected is None:
                    self.refused_any(project, change)
                    continue
                word, *told = change
                self.assertEqual(getattr(project, word)(*told), news(promises, expected[0]))
                model, at = [*model[:at + 1], expected], at + 1
                self.assertEqual([project.promises, project.sayings], list(expected))
                self.assertIs(all(holds(*[expected[0], saying]) for saying in project.sayings), True)
        self.assertGreater(min(done.values()), 60)

    def refused_any(self, project, change):
        """Check that a change raises an error of the package, and changes nothing."""
        word, *told = change
        before = self.state(project)
        for call in (lambda: getattr(project, word)(*told), lambda: project.trial(change)):
            with self.assertRaises(OWN):
                call()
        self.assertEqual(self.state(project), before)

    def any_change(self, project, rng, pool):
        """Some change, or None to take some back."""
        name, other = rng.choice("abcd"), rng.choice("abcd")
        word = rng.choice(("put", "put", "call", "call", "pin", "pin", "pin", "unpin", "remove", "rename", "undo"))
        if word == "put":
            return ("put", name, rng.choice(pool))
        if word == "call":
            there = calls(project.promises[name], rng.choice(("keeper", "caller"))) if name in project else ()
            return ("call", name, *rng.choice(there or (((), 0),)))
        if word in ("pin", "unpin"):
            if word == "unpin" and project.sayings:
                return ("unpin", rng.choice(project.sayings))
            return (word, rng.choice((("kept", name), ("barred", name), ("leads", name, other), ("alike", name, other),
                                      ("need", name, rng.randrange(4)))))
        return {"remove": ("remove", name), "rename": ("rename", name, other), "undo": None}[word]

    def after(self, promises, sayings, change):
        """The promises and sayings behind a change, or None if it is refused."""
        word, name, *told = change
        promises = dict(promises)
        if word in ("pin", "unpin"):
            if any(one not in promises for one in name[1:] if isinstance(one, str)) or (name in sayings) == (word == "pin"):
                return None
            sayings = (*sayings, name) if word == "pin" else tuple(one for one in sayings if one != name)
        elif word == "put":
            promises[name] = told[0]
        elif name not in promises:
            return None
        elif word == "remove":
            del promises[name]
        elif word == "rename":
            if told[0] in promises and told[0] != name:
                return None
            promises[told[0]] = promises.pop(name)
            sayings = tuple((one[0], *[told[0] if item == name else item for item in one[1:]]) for one in sayings)
        else:
            if tuple(told) not in calls(promises[name], "keeper") + calls(promises[name], "caller"):
                return None
            promises[name] = called(promises[name], tuple(told))
        if not promises or any(one not in promises for saying in sayings for one in saying[1:] if isinstance(one, str)):
            return None
        if len(sayings) > 10 or not all(holds(promises, saying) for saying in sayings):
            return None
        return {one: promises[one] for one in sorted(promises)}, sayings


if __name__ == "__main__":
    unittest.main()
