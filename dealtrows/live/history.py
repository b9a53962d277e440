"""Histories: states that can be taken back and done again, and blocks of changes.

States never change, so a history only tells which of them come before and
behind the one of now. The end of a block may only assign what is there already,
so its beginning makes all that the end can need.
"""

from dealtrows.errors import NothingToUndo


class Step:
    """A state, the steps behind it, and how many steps that makes."""

    def __init__(self, state, rest):
        self.state = state
        self.rest = rest
        self.many = 1 if rest is None else rest.many + 1


def _many_steps(step):
    """How many steps there are, None being none."""
    return 0 if step is None else step.many


class History:
    """The state of now, the one before the last change, and the steps back and on from here."""

    def __init__(self, state):
        self.now = state
        self.before = state
        self.done = None
        self.undone = None
        # The steps back that open blocks keep from being taken, those of the inmost one first.
        self.around = None

    def change(self, state):
        """Go to a new state, which forgets what was undone."""
        self.before = self.now
        self.done = Step(self.now, self.done)
        self.undone = None
        self.now = state

    def step_back(self, many):
        """Take back so many changes, and tell how many are left."""
        if many > _many_steps(self.done):
            raise NothingToUndo(many)
        self.before = self.now
        for _ in range(many):
            self.undone = Step(self.now, self.undone)
            self.now = self.done.state
            self.done = self.done.rest
        return _many_steps(self.done)

    def step_on(self, many):
        """Do so many changes again, and tell how many can be taken back."""
        if many > _many_steps(self.undone):
            raise NothingToUndo(many)
        self.before = self.now
        for _ in range(many):
            self.done = Step(self.now, self.done)
            self.now = self.undone.state
            self.undone = self.undone.rest
        return _many_steps(self.done)

    def _all_done(self):
        """The states before all changes, also those before open blocks, the last first."""
        found = []
        step, around = self.done, self.around
        while step is not None or around is not None:
            if step is None:
                step, around = around.state, around.rest
            else:
                found.append(step.state)
                step = step.rest
        return found

    def outside(self):
        """A history of the same states that is in no block."""
        made = History(self.now)
        made.before = self.before
        for state in reversed(list(self._all_done())):
            made.done = Step(state, made.done)
        made.undone = self.undone
        return made


class Trial:
    """A block behind which all is as before."""

    def __init__(self, history, held):
        self._history = history
        self._held = held

    def __enter__(self):
        history = self._history
        self._now = history.now
        self._before = history.before
        self._done = history.done
        self._undone = history.undone
        self._around = history.around
        history.around = Step(history.done, history.around)
        history.done = None
        return self._held

    def __exit__(self, kind, value, trace):
        history = self._history
        history.now = self._now
        history.before = self._before
        history.done = self._done
        history.undone = self._undone
        history.around = self._around


class Group:
    """A block whose changes count as one, and behind whose errors all is as before."""

    def __init__(self, history, held):
        self._history = history
        self._held = held

    def __enter__(self):
        history = self._history
        self._now = history.now
        self._before = history.before
        self._done = history.done
        self._undone = history.undone
        self._around = history.around
        self._one = Step(history.now, history.done)
        history.around = Step(history.done, history.around)
        history.done = None
        return self._held

    def __exit__(self, kind, value, trace):
        history = self._history
        history.around = self._around
        if kind is not None:
            history.now = self._now
            history.before = self._before
            history.done = self._done
            history.undone = self._undone
        else:
            history.before = self._now
            if history.done is None:
                history.done = self._done
            else:
                history.done = self._one
