"""Trials: what a bench or a shelf goes back to if the rows of a `with` statement end with an exception."""


class Start:
    """What was held when a trial began, and the start of the trial around it, None if there is none."""

    def __init__(self, held, around):
        self.held = held
        self.around = around


class Trial:
    """A context for a keeper, whose attribute `held` is all that its methods change."""

    def __init__(self, keeper):
        self._keeper = keeper
        self._start = None

    def __enter__(self):
        # One trial may be entered again before it has ended, so each start is kept upon the one ahead.
        self._start = Start(self._keeper.held, self._start)
        return self._keeper

    def __exit__(self, kind, value, trace):
        keeper = self._keeper
        if kind is not None:
            keeper.held = self._start.held
        self._start = self._start.around
