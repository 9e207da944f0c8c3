"""A book of texts of which several change at once, or none (12)."""

from foldervotes.errors import NoBlocks, NoChanges, NotKept, NotUnderWay, UnderWay
from foldervotes.opening import BOOK, file_path, opened
from foldervotes.pages import MOST_SIGNS
from foldervotes.plans import DROP, LAST_CALM, MAKE, PUT, plan_of
from foldervotes.signs import is_name, is_text


class Book:
    """Texts by names in a store.

    While a commit is under way `_steps` has those of it that are left, and `_next_pages`
    what the book tells behind its second calm.
    """

    def __init__(self, store):
        self._store = store
        self._pages = opened(store)
        self._next_pages = self._pages
        self._steps = []
        self._commits = 0

    def store(self):
        """The store of the book."""
        return self._store

    def names(self):
        """The ascending list of the names of texts."""
        return list(self._pages.texts)

    def text(self, name):
        """The text of a name."""
        self._check_kept(name)
        return self._pages.texts[name]

    def files(self, name):
        """The list of the paths of the pieces of a text."""
        self._check_kept(name)
        return [file_path(piece) for piece in self._pages.files[name]]

    def check_change(self, name, text):
        """Raises NoChanges for what is no change of a text, or None to drop one."""
        if not is_name(name):
            raise NoChanges()
        if not is_text(MOST_SIGNS, text) and (text is not None or name not in self._pages.texts):
            raise NoChanges()

    def needs(self, changes):
        """How many files a commit of changes would make."""
        plan = self._plan(changes)
        return 0 if plan is None else len(plan.made)

    def begin(self, changes):
        """Begins a commit of changes, if something changes; how many steps it has."""
        plan = self._plan(changes)
        if plan is None:
            return 0
        if self._store.free() < len(plan.made):
            raise NoBlocks()
        self._next_pages = plan.pages
        self._steps = list(plan.steps)
        return len(self._steps)

    def step(self):
        """Does the next step of the commit that is under way; how many are left."""
        if not self._steps:
            raise NotUnderWay()
        kind, path, text = self._steps[0]
        self._do(kind, path, text)
        del self._steps[0]
        return len(self._steps)

    def commit(self, changes):
        """Does a whole commit; how many files it made."""
        many = self.needs(changes)
        self.begin(changes)
        while self._steps:
            self.step()
        return many

    def commits(self):
        """How often a commit's second calm was done."""
        return self._commits

    def _plan(self, changes):
        if self._steps:
            raise UnderWay()
        if not isinstance(changes, dict):
            raise NoChanges()
        for name in changes:
            self.check_change(name, changes[name])
        return plan_of(self._pages, self._store.entries(BOOK), changes)

    def _do(self, kind, path, text):
        if kind == MAKE:
            self._store.make(path, text)
        elif kind == PUT:
            self._store.put(path, text)
        elif kind == DROP:
            self._store.drop(path)
        else:
            self._store.calm()
        if kind == LAST_CALM:
            self._pages = self._next_pages
            self._commits += 1

    def _check_kept(self, name):
        if not is_name(name) or name not in self._pages.texts:
            raise NotKept(name)
