"""A desk: a cabinet whose drawers are pulled one behind the other, with undo."""

from drawerlocks.cabinets import check_cabinet, check_drawer, free_drawers, goes
from drawerlocks.forms import first_standing, moved


class Desk:
    """A cabinet, the standing of its drawers, and the row of pulls that led to it."""

    def __init__(self, cabinet):
        check_cabinet(cabinet)
        self._cabinet = cabinet
        self._standing = first_standing(cabinet.drawers)
        self._pulls = []

    @property
    def cabinet(self):
        """The cabinet."""
        return self._cabinet

    @property
    def standing(self):
        """The standing of the drawers."""
        return self._standing

    @property
    def pulls(self):
        """The row of the pulls that went and stand."""
        return tuple(self._pulls)

    def __len__(self):
        return len(self._pulls)

    def pull(self, drawer):
        """Pulls the drawer, if this goes; whether it goes."""
        check_drawer(self._cabinet, drawer)
        if not goes(self._cabinet, self._standing, drawer):
            return False
        self._standing = moved(self._standing, drawer)
        self._pulls.append(drawer)
        return True

    def free(self):
        """The ascending list of the drawers whose pulls go."""
        return free_drawers(self._cabinet, self._standing)

    def undo(self):
        """Takes the last pull back; whether there was one."""
        if not self._pulls:
            return False
        # A pull is taken back even where a bar would stand against pulling the drawer again.
        self._standing = moved(self._standing, self._pulls.pop())
        return True

    def copy(self):
        """An independent desk that stands as this one."""
        desk = Desk(self._cabinet)
        desk._standing = self._standing
        desk._pulls = list(self._pulls)
        return desk
