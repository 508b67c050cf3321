"""Plans: targets and pieces that can be edited, checked and undone."""

from fewspans.bounds import MAX_EDITS
from fewspans.editing import copied_batch, edited_state
from fewspans.errors import (
    BadPieces, BadTargets, Busy, NothingToUndo, NoVersion, Rejected, SpanError, TooManyEdits, Unknown,
)
from fewspans.generating import find_missing
from fewspans.intervals import is_number, is_pieces, targets_error
from fewspans.solving import count_needed, solve


class Plan:
    """Targets and pieces, and the edits that stand."""

    def __init__(self, targets, pieces):
        error = targets_error(targets)
        if error is not None:
            raise BadTargets(error)
        if not is_pieces(pieces):
            raise BadPieces()
        # Both are tuples, so that apply can keep the old ones and put them back.
        self.states = ((targets, pieces),)
        self.done = ()
        self.busy = False

    def add_target(self, interval):
        """Add a target and return the new version."""
        return self.edit("add_target", interval)

    def add_piece(self, interval):
        """Add a piece and return the new version."""
        return self.edit("add_piece", interval)

    def remove_target(self, interval):
        """Remove a target and return the new version."""
        return self.edit("remove_target", interval)

    def remove_piece(self, interval):
        """Remove a piece and return the new version."""
        return self.edit("remove_piece", interval)

    def undo(self):
        """Remove the last edit that stands and return the new version."""
        self.require_idle()
        if not self.done:
            raise NothingToUndo()
        self.states = self.states[:-1]
        self.done = self.done[:-1]
        return len(self.done)

    def apply(self, edits, *, check=None):
        """Do all edits and return the new version, or do none of them if one fails or check objects."""
        self.require_idle()
        batch = copied_batch(edits)
        states, done = self.states, self.done
        try:
            for index, (word, interval) in enumerate(batch):
                self.record_or_reject(index, word, interval)
                if check is not None and not self.passes(check):
                    return None
            states, done = self.states, self.done
            return len(done)
        finally:
            # Whatever ended the batch before all of it was done, these are still the old ones.
            self.states, self.done = states, done

    def targets(self, *, version=None):
        """Return the targets of a version, or the present ones."""
        return self.state_at(version)[0]

    def pieces(self, *, version=None):
        """Return the pieces of a version, or the present ones."""
        return self.state_at(version)[1]

    def needed(self, *, version=None):
        """Return how many further pieces a version needs."""
        targets, pieces = self.state_at(version)
        return count_needed(targets, pieces)

    def solution(self, *, version=None):
        """Return a smallest solution of a version."""
        targets, pieces = self.state_at(version)
        return solve(targets, pieces)

    def missing(self, *, version=None):
        """Return the first demand that the pieces of a version do not serve, or None."""
        targets, pieces = self.state_at(version)
        return find_missing(targets, pieces)

    def edits(self):
        """Return the tuple of the edits that stand."""
        return self.done

    def changes(self):
        """Return, for each edit that stands, by how much it changed the number needed."""
        counts = [count_needed(targets, pieces) for targets, pieces in self.states]
        return tuple([after - before for before, after in zip(counts, counts[1:])])

    def edit(self, word, value):
        """Do one edit by itself and return the new version."""
        self.require_idle()
        self.record(word, value)
        return len(self.done)

    def record(self, word, value):
        """Do one edit, or raise its error and change nothing."""
        if len(self.done) >= MAX_EDITS:
            raise TooManyEdits()
        state = edited_state(self.states[-1], word, value)
        self.states += (state,)
        self.done += ((word, value),)

    def record_or_reject(self, index, word, value):
        """Do the edit at the index of a batch."""
        try:
            self.record(word, value)
        except (SpanError, Unknown) as error:
            raise Rejected(index) from error

    def passes(self, check):
        """Return whether check accepts this plan, which it cannot edit meanwhile."""
        self.busy = True
        try:
            return bool(check(self))
        finally:
            self.busy = False

    def require_idle(self):
        if self.busy:
            raise Busy()

    def state_at(self, version):
        """Return the targets and pieces after that many edits, or the present ones."""
        if version is None:
            return self.states[-1]
        if not is_number(version) or not 0 <= version <= len(self.done):
            raise NoVersion(version)
        return self.states[version]

    def __len__(self):
        return len(self.done)

    def __str__(self):
        return f"{len(self.targets())} targets, {len(self.pieces())} pieces, {len(self.done)} edits"

    def __eq__(self, other):
        return isinstance(other, Plan) and self.states[-1] == other.states[-1]
