"""Making runs of the rows that came, by exchanging, a page at a time."""

from runsorts.exchange import Exchange


class Maker:
    """The room while runs are made, and one page of the rows that come into it."""

    def __init__(self, store, order, size):
        self.store = store
        self.came = store.state.came
        # At the beginning of a run those are in the room that came into it and don't lie in a run yet.
        made = store.numbers_made()
        self.taken = min(self.came, size + len(made))
        self.room = Exchange(order)
        self.held_place = -1
        self.held = ()
        self.most = 0
        self.many = 0
        for number in range(self.taken):
            if number not in made:
                self.room.let_in(self.came_as(number))

    def came_as(self, number):
        """Tell the (number, row) that came as this number."""
        place = number // self.store.page
        if place != self.held_place:
            self.held = self.store.look_at_came(place)
            self.held_place = place
        return self.held[number - place * self.store.page]

    def next_page(self):
        """Tell the next (number, row) of the run, a page of them, or as many as are left of it."""
        page = []
        while len(page) < self.store.page and not self.room.is_over():
            self.most = max(self.most, self.room.holds() + 2 * self.store.page)
            page.append(self.room.let_out())
            if self.taken < self.came:
                self.room.let_in(self.came_as(self.taken))
                self.taken += 1
        self.many += len(page)
        return page

    def begin_next(self):
        """Begin the next run."""
        self.room.begin_next()
        self.many = 0
