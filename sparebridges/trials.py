"""Trials, for a with statement: what is tried out is put back when the block ends.

What is tried out has all that can change in its attribute _states, whose value itself stays as it is. A trial that is
begun again within its own block keeps what it has kept so far as well.
"""


class Kept:
    """What a trial keeps while a block runs, and what it had kept before."""

    def __init__(self, states, before):
        self.states = states
        self.before = before


class Trial:
    """Puts back what is tried out in whatever way the block ends."""

    def __init__(self, owner):
        self._owner = owner
        self._kept = None

    def __enter__(self):
        self._kept = Kept(self._owner._states, self._kept)
        return self._owner

    def __exit__(self, kind, value, trace):
        owner = self._owner
        kept = self._kept
        owner._states = kept.states
        self._kept = kept.before


class SafeTrial:
    """Puts back what is tried out only if the block ends with an exception."""

    def __init__(self, owner):
        self._owner = owner
        self._kept = None

    def __enter__(self):
        self._kept = Kept(self._owner._states, self._kept)
        return self._owner

    def __exit__(self, kind, value, trace):
        owner = self._owner
        kept = self._kept
        if kind is not None:
            owner._states = kept.states
        self._kept = kept.before
