"""What is kept from one call to the next: the windows and the persons."""

from windowrow.plan import done_times


class Row:
    """The windows, how many; and of each person when it comes and its minutes at each window."""

    def __init__(self):
        # Without windows nothing has been started.
        self.windows = 0
        self.comings = []
        self.minutes = []

    def has_person(self, person):
        """Whether there is such a person."""
        return person < len(self.comings)

    def has_window(self, window):
        """Whether there is such a window."""
        return window < self.windows

    def has_place(self, person, window):
        """Whether there is such a person and such a window."""
        return self.has_person(person) and self.has_window(window)

    def all_done(self):
        """When each person is done at each window."""
        return done_times(self.comings, self.minutes)
