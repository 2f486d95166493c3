"""Loads of records in pieces, and what has come of them in whatever sequence."""

from rootward.errors import InvalidNumber, InvalidPiece, InvalidRecord, Nothing, Unfit
from rootward.records import is_record
from rootward.values import is_between, is_whole, renewed
from rootward.zones import Zone


def pieces(load, size):
    """Return the pieces of a load, all but the last one of a size."""
    if not isinstance(load, list):
        raise InvalidRecord(renewed(load))
    for record in load:
        if not is_record(record):
            raise InvalidRecord(renewed(record))
    if not is_whole(size) or size < 1:
        raise InvalidNumber(renewed(size))
    total = max(1, (len(load) + size - 1) // size)
    return [(index, total, tuple(load[index * size:(index + 1) * size])) for index in range(total)]


def _is_piece(value):
    """Return whether any object is a piece of some load for some size."""
    if not isinstance(value, tuple) or len(value) != 3:
        return False
    index, total, records = value
    if not is_whole(total) or not is_between(index, 0, total - 1) or not isinstance(records, tuple):
        return False
    return (len(records) > 0 or total == 1) and all([is_record(record) for record in records])


class Gathered:
    """The pieces of a load that have come, in whatever sequence."""

    def __init__(self):
        # To the index of each piece its total and its records, in the sequence in which they came.
        self._come = {}

    def __len__(self):
        return len(self._come)

    def __eq__(self, other):
        return isinstance(other, Gathered) and self._come == other._come

    def take(self, piece):
        """Take a piece in; return True if it has not come yet, otherwise False."""
        if not _is_piece(piece):
            raise InvalidPiece(renewed(piece))
        index, total, records = piece
        is_new = index not in self._come
        if self._total() not in (None, total) or not (is_new or self._come[index][1] == records):
            raise Unfit(renewed(piece))
        if is_new:
            self._come[index] = (total, records)
        return is_new

    def lacking(self):
        """Return the indexes of the pieces that have not come, ascending; None ahead of the first piece."""
        total = self._total()
        return None if total is None else [index for index in range(total) if index not in self._come]

    def load(self):
        """Return all records, None if a piece lacks or none has come."""
        if self._total() is None or len(self._come) < self._total():
            return None
        return [record for index in range(len(self._come)) for record in self._come[index][1]]

    def undo(self):
        """Forget the new piece that came last."""
        if len(self._come) == 0:
            raise Nothing(None)
        del self._come[list(self._come)[-1]]

    def _total(self):
        """Return the number of all pieces, None ahead of the first one."""
        totals = [total for total, _ in self._come.values()]
        return totals[0] if len(totals) > 0 else None


def zone_behind(zone, load):
    """Return the zone with the apex of a zone and just the records of a load."""
    return Zone(zone.apex, load)
