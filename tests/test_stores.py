import unittest
from itertools import product

from helper import LONG_WAYS, ODD, WRONG_TEXTS, WRONG_WAYS, Equal, by_places, check_refusals, texts, ways
from turnedends import errors
from turnedends.stores import Store

PAIRS = [((), ()), (("both",), ("care",)), (("pairs",), ("all",)), ((), ("all",)), (("all",), ()), (("lone",), ("both",)),
         (LONG_WAYS[0], LONG_WAYS[7]), (("pairs",) * 6, ("all",) * 6)]
WORDS = ("edit", "take", "put", "undo")


class Model:
    """A store from the words of the document, which keeps all that was behind each deed."""

    def __init__(self, taken, put):
        self.taken, self.put, self.journal = taken, put, []

    def last(self):
        return self.journal[-1] if self.journal else ("", "", "")

    def looks_changed(self):
        _, kept, working = self.last()
        return by_places(self.taken, working) != kept

    def do(self, word, text):
        _, kept, working = self.last()
        if word == "undo":
            return self.journal.pop()[0]
        rows = {"edit": (kept, text), "take": (by_places(self.taken, working), working),
                "put": (kept, by_places(self.put, kept))}
        self.journal.append((word,) + rows[word])
        return self.looks_changed()


def do(store, word, text):
    if word == "edit":
        return store.edit(text)
    return {"take": store.take_in, "put": store.put_out, "undo": store.undo}[word]()


def seen(store):
    """All that a store tells of itself."""
    return store.kept, store.working, store.journal, len(store), store.looks_changed()


class Trouble(Exception):
    pass


class DeedsTest(unittest.TestCase):

    def test_a_new_store(self):
        for taken, put in PAIRS:
            self.assertEqual(seen(Store(taken, put)), ("", "", [], 0, False))

    def check(self, taken, put, words, some):
        """A store does and tells what the model does, deed by deed."""
        store, model = Store(taken, put), Model(taken, put)
        for k, word in enumerate(words):
            text = some[k % len(some)]
            if word == "undo" and not model.journal:
                self.assertRaises(errors.NothingDone, store.undo)
                continue
            self.assertEqual(do(store, word, text), model.do(word, text), (taken, put, words))
            _, kept, working = model.last()
            self.assertEqual(seen(store), (kept, working, model.journal, len(model.journal), model.looks_changed()))

    def test_all_short_courses(self):
        for taken, put in PAIRS:
            for words in product(WORDS, repeat=5):
                self.check(taken, put, words, ("arn", "nr", "", "rnn"))

    def test_many_ways(self):
        words = ("edit", "take", "put", "take", "edit", "put", "undo", "take", "edit", "undo", "undo", "take", "put", "put")
        for taken in ways(2) + list(LONG_WAYS):
            for put in ways(1) + list(LONG_WAYS[:3]):
                self.check(taken, put, words, ("arnrnan", "n", "rrn"))

    def test_all_short_texts(self):
        for taken, put in PAIRS:
            for text in texts(3):
                store = Store(taken, put)
                kept = by_places(taken, text)
                self.assertIs(store.edit(text), kept != "")
                self.assertIs(store.take_in(), False)
                self.assertEqual((store.kept, store.working), (kept, text))
                self.assertIs(store.put_out(), by_places(taken, by_places(put, kept)) != kept)
                self.assertEqual((store.kept, store.working), (kept, by_places(put, kept)))

    def test_an_edit_by_the_text_that_is_there_already(self):
        store = Store(("both",), ("care",))
        self.assertIs(store.edit(""), False)
        self.assertEqual(store.journal, [("edit", "", "")])
        store.edit("an")
        store.edit("an")
        self.assertEqual(store.journal, [("edit", "", ""), ("edit", "", "an"), ("edit", "", "an")])
        self.assertEqual([store.undo(), store.working, store.undo(), store.working], ["edit", "an", "edit", ""])

    def test_it_looks_changed_though_nobody_changed_it(self):
        store = Store(("both",), ("all",))
        store.edit("arn")
        self.assertEqual([store.take_in(), store.put_out(), store.kept, store.working], [False, False, "an", "arn"])
        store = Store((), ("all",))
        store.edit("n")
        self.assertEqual([store.take_in(), store.put_out(), store.take_in(), store.put_out()], [False, True, False, True])
        self.assertEqual((store.kept, store.working), ("rn", "rrn"))
        # A text that is taken in without care.
        store = Store(("all",), ())
        store.edit("rn")
        self.assertEqual([store.take_in(), store.put_out()], [False, True])

    def test_taking_in_changes_the_kept_text_alone_and_putting_out_the_working_one(self):
        store = Store(("lone",), ("both",))
        store.edit("n")
        store.take_in()
        store.edit("a")
        self.assertEqual((store.kept, store.working), ("r", "a"))
        self.assertIs(store.looks_changed(), True)
        store.put_out()
        self.assertEqual((store.kept, store.working), ("r", "n"))
        self.assertIs(store.looks_changed(), False)

    def test_long_texts_and_many_deeds(self):
        store = Store(("pairs",) * 6, ("all",) * 6)
        store.edit("an" * 2000)
        self.assertEqual([store.take_in(), store.put_out()], [False, False])
        self.assertEqual(store.working, "arrrrrrn" * 2000)
        store = Store((), ())
        for k in range(1500):
            store.edit("a" * (k % 3))
        self.assertEqual([len(store), store.journal[1499], store.journal[0]], [1500, ("edit", "", "aa"), ("edit", "", "")])
        for k in range(1500):
            self.assertEqual(store.undo(), "edit")
        self.assertEqual(seen(store), ("", "", [], 0, False))


class UndoTest(unittest.TestCase):

    def test_an_undo_of_all_deeds_and_of_one_more(self):
        store = Store(("both",), ("care",))
        self.assertRaises(errors.NothingDone, store.undo)
        store.edit("arn")
        store.take_in()
        store.put_out()
        self.assertEqual([store.undo(), store.undo(), store.undo()], ["put", "take", "edit"])
        self.assertEqual(seen(store), ("", "", [], 0, False))
        self.assertRaises(errors.NothingDone, store.undo)
        self.assertEqual(seen(store), ("", "", [], 0, False))
        store.edit("a")
        self.assertEqual((store.working, len(store), store.undo()), ("a", 1, "edit"))

    def test_everything_is_as_if_it_had_not_been_done(self):
        for taken, put in PAIRS:
            store = Store(taken, put)
            for word in ("edit", "take", "put", "edit", "put", "take"):
                before = seen(store)
                do(store, word, "rnan")
                self.assertEqual(len(store), before[3] + 1)
                self.assertEqual(store.undo(), word)
                self.assertEqual(seen(store), before)
                do(store, word, "rnan")


class BranchTest(unittest.TestCase):

    def store(self):
        store = Store(("both",), ("care",))
        store.edit("arnr")
        store.take_in()
        store.put_out()
        return store

    def test_everything_is_the_same(self):
        store = self.store()
        branch = store.branch()
        self.assertIs(branch.__class__, Store)
        self.assertIsNot(branch, store)
        self.assertEqual(seen(branch), seen(store))
        for word in WORDS + WORDS:
            self.assertEqual(do(branch, word, "rrn"), do(store, word, "rrn"))
            self.assertEqual(seen(branch), seen(store))

    def test_both_are_independent(self):
        store = self.store()
        before = seen(store)
        branch = store.branch()
        branch.edit("n")
        branch.take_in()
        self.assertEqual(seen(store), before)
        after = seen(branch)
        while len(store):
            store.undo()
        self.assertEqual(seen(branch), after)
        self.assertEqual([branch.undo() for _ in range(5)], ["take", "edit", "put", "take", "edit"])
        self.assertRaises(errors.NothingDone, branch.undo)

    def test_a_branch_of_a_new_store(self):
        store = Store((), ("all",))
        branch = store.branch()
        self.assertEqual(seen(branch), ("", "", [], 0, False))
        self.assertRaises(errors.NothingDone, branch.undo)
        branch.edit("n")
        branch.take_in()
        self.assertEqual((branch.put_out(), branch.working, store.working), (True, "rn", ""))

    def test_a_branch_of_a_branch(self):
        store = self.store()
        second = store.branch().branch()
        self.assertEqual(seen(second), seen(store))
        second.undo()
        self.assertEqual((len(second), len(store)), (2, 3))

    def test_a_branch_made_in_a_trial(self):
        store = self.store()
        with store.trial():
            store.edit("nn")
            branch = store.branch()
            inside = seen(store)
            with store.trial():
                inner = store.branch()
            branch.put_out()
            self.assertEqual(seen(store), inside)
            self.assertEqual(branch.undo(), "put")
        # What was done ahead of the trial can be undone in the branch, and the end of the trial does not matter to it.
        self.assertEqual(seen(branch), inside)
        self.assertEqual([branch.undo() for _ in range(4)], ["edit", "put", "take", "edit"])
        self.assertRaises(errors.NothingDone, branch.undo)
        self.assertEqual(seen(inner), inside)
        self.assertEqual([inner.undo() for _ in range(4)], ["edit", "put", "take", "edit"])
        self.assertEqual(len(store), 3)

    def test_a_trial_of_a_branch(self):
        store = self.store()
        branch = store.branch()
        before = seen(branch)
        with branch.trial() as inner:
            self.assertIs(inner, branch)
            branch.edit("a")
            store.undo()
            self.assertEqual((len(branch), len(store)), (4, 2))
        self.assertEqual((seen(branch), len(store)), (before, 2))


class TrialTest(unittest.TestCase):

    def store(self):
        store = Store(("pairs",), ("all",))
        store.edit("rnn")
        store.take_in()
        return store

    def test_everything_is_as_at_its_beginning(self):
        store = self.store()
        before = seen(store)
        with store.trial() as inner:
            self.assertIs(inner, store)
            self.assertEqual(seen(inner), before)
            inner.put_out()
            inner.edit("a")
            inner.undo()
            inner.take_in()
            self.assertEqual(seen(store), ("nn", "rnrn", before[2] + [("put", "nn", "rnrn"), ("take", "nn", "rnrn")], 4,
                                           False))
        self.assertEqual(seen(store), before)
        self.assertEqual([store.undo(), store.undo()], ["take", "edit"])
        self.assertRaises(errors.NothingDone, store.undo)

    def test_only_what_was_done_in_it_can_be_undone(self):
        store = self.store()
        before = seen(store)
        with store.trial():
            self.assertRaises(errors.NothingDone, store.undo)
            self.assertEqual(seen(store), before)
            store.edit("a")
            store.put_out()
            self.assertEqual([store.undo(), store.undo()], ["put", "edit"])
            self.assertRaises(errors.NothingDone, store.undo)
            self.assertEqual(seen(store), before)
        self.assertEqual(store.undo(), "take")

    def test_an_empty_trial_and_a_trial_of_a_new_store(self):
        store = Store((), ())
        with store.trial():
            pass
        self.assertEqual(seen(store), ("", "", [], 0, False))
        with store.trial():
            self.assertRaises(errors.NothingDone, store.undo)
            store.edit("r")
        self.assertEqual(seen(store), ("", "", [], 0, False))

    def test_trials_within_one_another(self):
        store = self.store()
        states = [seen(store)]
        with store.trial() as first:
            first.edit("a")
            states.append(seen(store))
            with store.trial() as second:
                self.assertIs(second, first)
                self.assertRaises(errors.NothingDone, second.undo)
                second.take_in()
                states.append(seen(store))
                with store.trial(), store.trial() as last:
                    last.edit("nnn")
                    self.assertEqual(last.undo(), "edit")
                    self.assertRaises(errors.NothingDone, last.undo)
                    last.put_out()
                self.assertEqual(seen(store), states[2])
                self.assertEqual(second.undo(), "take")
                self.assertRaises(errors.NothingDone, second.undo)
                second.edit("r")
            self.assertEqual(seen(store), states[1])
            self.assertEqual(first.undo(), "edit")
            self.assertRaises(errors.NothingDone, first.undo)
        self.assertEqual(seen(store), states[0])
        self.assertEqual(store.undo(), "take")

    def test_an_undo_in_a_trial_of_what_was_done_in_the_trial_around(self):
        store = self.store()
        with store.trial():
            store.edit("a")
            with store.trial():
                self.assertRaises(errors.NothingDone, store.undo)
            self.assertEqual(store.undo(), "edit")

    def test_many_trials_one_behind_the_other(self):
        store = self.store()
        before = seen(store)
        for k in range(50):
            with store.trial():
                store.edit("n" * k)
                store.take_in()
            self.assertEqual(seen(store), before)

    def test_its_beginning_is_that_of_the_block(self):
        store = self.store()
        trial = store.trial()
        store.edit("a")
        before = seen(store)
        with trial as inner:
            self.assertIs(inner, store)
            self.assertRaises(errors.NothingDone, store.undo)
            store.put_out()
        self.assertEqual(seen(store), before)
        store.undo()
        with trial:
            store.edit("nr")
            with trial:
                store.edit("r")
            self.assertEqual(store.working, "nr")
        self.assertEqual(store.working, "rnn")

    def test_a_trial_left_by_an_error(self):
        store = self.store()
        before = seen(store)
        for error in (Trouble, KeyError, StopIteration, KeyboardInterrupt):
            trouble = error("why")
            with self.assertRaises(error) as caught:
                with store.trial():
                    store.edit("a")
                    raise trouble
            self.assertIs(caught.exception, trouble)
            self.assertEqual(seen(store), before)
        with self.assertRaises(errors.NothingDone):
            with store.trial() as inner:
                inner.undo()
        self.assertEqual(seen(store), before)

    def test_trials_left_by_an_error_in_an_inner_one(self):
        store = self.store()
        before = seen(store)
        with store.trial():
            store.edit("n")
            inside = seen(store)
            with self.assertRaises(Trouble):
                with store.trial():
                    store.put_out()
                    with store.trial():
                        store.edit("")
                        raise Trouble()
            self.assertEqual(seen(store), inside)
            self.assertEqual(store.undo(), "edit")
        self.assertEqual(seen(store), before)

    def test_a_trial_left_by_return_break_and_continue(self):
        store = self.store()
        before = seen(store)

        def left():
            with store.trial():
                store.edit("a")
                return store.working

        self.assertEqual((left(), seen(store)), ("a", before))
        for k in range(3):
            with store.trial():
                store.edit("r")
                if k == 1:
                    break
                continue
        self.assertEqual((k, seen(store)), (1, before))


class AttemptTest(unittest.TestCase):

    def test_what_it_returns(self):
        store = Store(("both",), ("care",))
        store.edit("arn")
        before = seen(store)

        def work(inner):
            self.assertIs(inner, store)
            self.assertRaises(errors.NothingDone, inner.undo)
            return [inner.take_in(), inner.put_out(), inner.kept, len(inner)]

        self.assertEqual(store.attempt(work), [False, False, "an", 3])
        self.assertEqual(seen(store), before)
        self.assertIsNone(store.attempt(lambda inner: None))
        self.assertIs(store.attempt(lambda inner: inner), store)
        self.assertEqual(store.attempt(lambda inner: inner.attempt(lambda last: last.edit("r"))), True)
        self.assertEqual(seen(store), before)

    def test_a_branch_that_it_returns(self):
        store = Store(("both",), ("care",))
        store.edit("arn")

        def work(inner):
            inner.take_in()
            return inner.branch()

        branch = store.attempt(work)
        self.assertEqual((len(store), len(branch), branch.kept), (1, 2, "an"))
        self.assertEqual([branch.undo(), branch.undo()], ["take", "edit"])

    def test_an_error_is_passed_on(self):
        store = Store(("both",), ("care",))
        store.edit("arn")
        before = seen(store)
        trouble = Trouble()

        def work(inner):
            inner.take_in()
            raise trouble

        with self.assertRaises(Trouble) as caught:
            store.attempt(work)
        self.assertIs(caught.exception, trouble)
        self.assertEqual(seen(store), before)
        self.assertRaises(errors.BadText, store.attempt, lambda inner: inner.edit("x"))
        self.assertRaises(errors.NothingDone, store.attempt, lambda inner: inner.undo())
        self.assertEqual(seen(store), before)


class ConventionsTest(unittest.TestCase):

    def test_wrong_ways(self):
        check_refusals(self, [Store], [(("both",), WRONG_WAYS, errors.BadWay), (("care",), WRONG_WAYS, errors.BadWay)])

    def test_a_refused_edit_changes_nothing(self):
        store = Store(("both",), ("care",))
        store.edit("arn")
        store.take_in()
        before = seen(store)
        for text in WRONG_TEXTS:
            with self.subTest(text=text), self.assertRaises(errors.BadText):
                store.edit(text)
            self.assertEqual(seen(store), before)
        with store.trial():
            self.assertRaises(errors.BadText, store.edit, "x")
            self.assertRaises(errors.NothingDone, store.undo)
            self.assertEqual(seen(store), before)
        self.assertEqual(store.undo(), "take")

    def test_each_journal_is_a_new_list(self):
        store = Store(("both",), ("care",))
        store.edit("arn")
        first, second = store.journal, store.journal
        self.assertIs(first.__class__, list)
        self.assertIsNot(first, second)
        first.append(None)
        first[0] = ("put", "a", "a")
        self.assertEqual((store.journal, len(store), store.working), (second, 1, "arn"))
        second.clear()
        self.assertEqual((store.journal, store.undo()), ([("edit", "", "arn")], "edit"))
        with store.trial():
            store.edit("n")
            inside = store.journal
        self.assertEqual((inside, store.journal), ([("edit", "", "n")], []))

    def test_each_item_of_the_journal_is_a_tuple(self):
        store = Store(("both",), ("care",))
        store.edit("arn")
        store.take_in()
        store.put_out()
        self.assertEqual(store.journal, [("edit", "", "arn"), ("take", "an", "arn"), ("put", "an", "arn")])
        self.assertEqual([row.__class__ for row in store.journal], [tuple] * 3)

    def test_a_store_is_equal_to_nothing_else(self):
        store = Store((), ())
        for other in ODD + ("", (), Store):
            if not isinstance(other, Equal):
                self.assertIs(store == other, False)
                self.assertIs(store != other, True)
        self.assertIs(store == store, True)
        self.assertIs(store != store, False)

    def test_properties_and_length_of_a_store(self):
        for name in ("kept", "working", "journal"):
            self.assertIs(vars(Store)[name].__class__, property)


if __name__ == "__main__":
    unittest.main()
