"""Runs: a program's rows done one after another."""

from boundwatch.words import holds, worth


class Run:
    """A run of a program; a step that changes held or stock puts a new dict there."""

    def __init__(self, program, numbers):
        # The program is handed in as well: its list of rows may be changed later.
        self._rows = list(program.rows)
        self._numbers = list(numbers)
        self._taken = 0
        self.held = {name: 0 for name in program.names}
        self.stock = {shelf: [0] * length for shelf, length in program.shelves.items()}
        self.at = 0
        self.end = None if self._rows else "done"

    def step(self):
        """Does the row at which the run stands; nothing, where it has ended."""
        if self.end is not None:
            return
        match self._rows[self.at]:
            case ("set", name, a):
                self._set(name, a)
            case ("take", name, low, high):
                self._hold(name, self._next_taken(low, high))
            case ("get", name, shelf, index):
                self._get(name, shelf, index)
            case ("put", shelf, index, a):
                self._put(shelf, index, a)
            case ("when", condition, goal):
                self._when(condition, goal)
            case ("jump", goal):
                self._go(goal)
            case _:
                self.end = "done"

    def _go(self, goal):
        """Stands at the goal."""
        self.at = goal
        if goal == len(self._rows):
            self.end = "done"

    def _hold(self, name, number):
        """Lets the name hold the number, and goes on."""
        self.held = {**self.held, name: number}
        self._go(self.at + 1)

    def _next_taken(self, low, high):
        """The next of the numbers to take, or the nearest from low to high; low where none is left."""
        if self._taken == len(self._numbers):
            return low
        number = self._numbers[self._taken]
        self._taken += 1
        return max(low, min(high, number))

    def _worth(self, expression):
        """What the expression comes to; None where the run has ended with it."""
        number = worth(expression, self.held)
        if number is None:
            self.end = "great"
        return number

    def _place(self, shelf, index):
        """The place of the shelf that the index tells; None where the run has ended with it."""
        place = self._worth(index)
        if place is not None and not 0 <= place < len(self.stock[shelf]):
            self.end = "out"
            return None
        return place

    def _set(self, name, a):
        number = self._worth(a)
        if number is not None:
            self._hold(name, number)

    def _get(self, name, shelf, index):
        place = self._place(shelf, index)
        if place is not None:
            self._hold(name, self.stock[shelf][place])

    def _put(self, shelf, index, a):
        place = self._place(shelf, index)
        if place is None:
            return
        number = self._worth(a)
        if number is not None:
            numbers = list(self.stock[shelf])
            numbers[place] = number
            self.stock = {**self.stock, shelf: numbers}
            self._go(self.at + 1)

    def _when(self, condition, goal):
        truth = holds(condition, self.held)
        if truth is None:
            self.end = "great"
        else:
            self._go(goal if truth else self.at + 1)


def ran(program, numbers, most):
    """The run behind so many steps, or fewer where it ends."""
    run = Run(program, numbers)
    for _ in range(most):
        if run.end is not None:
            break
        run.step()
    return run
