"""Desks: a program done deed by deed, and undone."""

from memoryviews.errors import NoDeed, NotOver, NothingDone
from memoryviews.machines import can_do, check_rule, deeds_in, end_of, has_ended, start_of, state_behind
from memoryviews.programs import check_program
from memoryviews.values import same


class Desk:
    """A program by a rule, in some state."""

    def __init__(self, program, rule):
        check_program(program)
        check_rule(rule)
        self.program = program
        self.rule = rule
        self._done = []
        # the first state, and the one behind each deed, so that undoing only has to drop the last one
        self._states = [start_of(program, rule)]
        # so many deeds at the beginning cannot be undone now
        self._fixed = 0

    def __eq__(self, other):
        return isinstance(other, Desk) and same(self.program, other.program) and same(self.rule, other.rule)

    def state(self):
        """The state."""
        return self._states[-1]

    def deeds(self):
        """The list of all deeds that can be done."""
        return deeds_in(self.program, self.rule, self.state())

    def journal(self):
        """The list of all deeds that were done."""
        return list(self._done)

    def is_over(self):
        """Whether the state is over."""
        return has_ended(self.program, self.rule, self.state())

    def outcome(self):
        """The outcome of the state, which must be over."""
        if not self.is_over():
            raise NotOver("the state is not over")
        return end_of(self.rule, self.state())

    def do(self, deed):
        """Do a deed."""
        if not can_do(self.program, self.rule, self.state(), deed):
            raise NoDeed("this cannot be done now")
        self._states.append(state_behind(self.program, self.rule, self.state(), deed))
        self._done.append(deed)

    def undo(self):
        """Take back the last deed, and return it."""
        if len(self._done) == self._fixed:
            raise NothingDone("there is nothing to undo")
        self._states.pop()
        return self._done.pop()

    def branch(self):
        """An independent desk in the same state, in which all deeds can be undone."""
        desk = Desk(self.program, self.rule)
        desk._done = list(self._done)
        desk._states = list(self._states)
        return desk

    def attempt(self, work):
        """Call a function with this desk, and return what it returns; then all is as before."""
        done, states, fixed = self._done, self._states, self._fixed
        self._done = list(done)
        self._states = list(states)
        self._fixed = len(done)
        try:
            return work(self)
        finally:
            self._done, self._states, self._fixed = done, states, fixed
