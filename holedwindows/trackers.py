"""A tracker that goes along a row."""

from holedwindows.checks import check_look
from holedwindows.finding import starts_of
from holedwindows.views import views


class Tracker:
    """Goes along a row from a place that is not known, one place on from look to look."""

    def __init__(self, row, mask):
        self._found = views(row, mask)
        self._row = row
        self._mask = mask
        self._looks = ()

    @property
    def row(self):
        """Return the row."""
        return self._row

    @property
    def mask(self):
        """Return the mask."""
        return self._mask

    @property
    def seen(self):
        """Return the tuple of the looks that stand."""
        return self._looks

    def see(self, view):
        """Take one look more, and return at how many places it can have begun."""
        check_look(view, self._mask)
        self._looks = self._looks + (view,)
        return len(self.starts())

    def starts(self):
        """Return the ascending list of the places at which it can have begun."""
        return starts_of(self._found, self._looks, list(range(len(self._looks))))

    def places(self):
        """Return the ascending list of the places of the last look."""
        # Without a look it stands where it can begin.
        gone = max(len(self._looks) - 1, 0)
        return [start + gone for start in self.starts()]

    def undo(self):
        """Take the last look back, and return whether there was one."""
        many = len(self._looks)
        self._looks = self._looks[:-1]
        return many > 0

    def copy(self):
        """Return an independent tracker that stands as this one."""
        other = Tracker(self._row, self._mask)
        other._looks = self._looks
        return other

    def __len__(self):
        return len(self._looks)
