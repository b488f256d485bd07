"""A kept text and a working text, and what is done to them."""

from turnedends.errors import NothingDone
from turnedends.kinds import check_text
from turnedends.ways import check_way, turn


class Course:
    """The deeds that were done, and what is to come back when a trial ends.

    The first deeds are fixed: they cannot be undone, as they were done ahead of the trial. Behind the trial, the
    store has the course around it again, which nothing has changed meanwhile.
    """

    def __init__(self, deeds, fixed, around):
        self.deeds = list(deeds)
        self.fixed = fixed
        self.around = around


class Trial:
    """A with-block at whose end a store is as it was at its beginning."""

    def __init__(self, store):
        self.store = store

    def __enter__(self):
        course = self.store._course
        self.store._course = Course(course.deeds, len(course.deeds), course)
        return self.store

    def __exit__(self, *told):
        self.store._course = self.store._course.around


class Store:
    """A kept text and a working text, both empty at first, and two ways between them."""

    def __init__(self, taken, put):
        check_way(taken)
        check_way(put)
        self._taken = taken
        self._put = put
        self._course = Course([], 0, None)

    @property
    def kept(self):
        return self._last()[1]

    @property
    def working(self):
        return self._last()[2]

    @property
    def journal(self):
        return list(self._course.deeds)

    def __len__(self):
        return len(self._course.deeds)

    def _last(self):
        """Returns the last deed with both texts behind it; a new store has empty ones, and no word."""
        return self._course.deeds[-1] if self._course.deeds else ("", "", "")

    def _do(self, word, kept, working):
        """Does a deed, and returns whether the store looks changed then."""
        self._course.deeds.append((word, kept, working))
        return self.looks_changed()

    def looks_changed(self):
        """Returns whether the working text, taken in, is not the kept one."""
        return turn(self._taken, self.working) != self.kept

    def edit(self, text):
        """Makes the working text another one, and returns whether the store looks changed then."""
        check_text(text)
        return self._do("edit", self.kept, text)

    def take_in(self):
        """Takes the working text in, and returns whether the store looks changed then."""
        return self._do("take", turn(self._taken, self.working), self.working)

    def put_out(self):
        """Puts the kept text out, and returns whether the store looks changed then."""
        return self._do("put", self.kept, turn(self._put, self.kept))

    def undo(self):
        """Takes back the last deed, and returns its word."""
        if len(self._course.deeds) == self._course.fixed:
            raise NothingDone("there is no deed to undo")
        return self._course.deeds.pop()[0]

    def branch(self):
        """Returns an independent store on which everything is the same, and in which all can be undone."""
        found = Store(self._taken, self._put)
        found._course = Course(self._course.deeds, 0, None)
        return found

    def trial(self):
        """Returns a with-block at whose end everything is as at its beginning."""
        return Trial(self)

    def attempt(self, work):
        """Calls a function with the store in a trial, and returns what it returns."""
        with self.trial() as inner:
            return work(inner)
