"""Cells brought to other spots of a grid."""


class Moves:
    """The spots of cells, and how the sum of their lengths changes when two spots are swapped.

    A bundle is a cell with those that read it; what counts of it is the least rectangle that has all their spots.
    """

    def __init__(self, bundles, width, height, spots):
        self._sizes = (width, height)
        self.spots = list(spots)
        self._cells_at = {spot: cell for cell, spot in enumerate(spots)}
        # A bundle of one cell has no length wherever that is.
        self._bundles = [bundle for bundle in bundles if len(bundle) > 1]
        self._bundles_of = [[] for _ in spots]
        for number, bundle in enumerate(self._bundles):
            for cell in bundle:
                self._bundles_of[cell].append(number)
        # For each bundle the two least and the two greatest numbers of its columns, and those of its rows.
        self._bounds = [self._measured(bundle) for bundle in self._bundles]

    def improve(self):
        """Makes the sum less where a swap does so, cell by cell; False if none does."""
        is_better = False
        for cell in range(len(self.spots)):
            while self._improve_one(cell):
                is_better = True
        return is_better

    def _measured(self, bundle):
        """The two least and the two greatest numbers of columns, and of rows, of the spots of a bundle."""
        found = []
        for at in range(2):
            numbers = sorted([self.spots[cell][at] for cell in bundle])
            found.append((numbers[0], numbers[1], numbers[-2], numbers[-1]))
        return found

    def _others(self, number, cell, at):
        """The least and the greatest column (at 0) or row (at 1) of the other cells of a bundle."""
        low, next_low, next_high, high = self._bounds[number][at]
        own = self.spots[cell][at]
        return (next_low if own == low else low, next_high if own == high else high)

    def _improve_one(self, cell):
        """Brings a cell to another spot if that makes the sum less.

        A swap is better only if one of its two cells alone would be better off at the other spot: what both have
        together would not be longer then, and is as long as before if both move.
        """
        for alone, spot in sorted(self._better_spots(cell)):
            if alone + self._change_of_other(cell, spot) < 0:
                self._swap(cell, spot)
                return True
        return False

    def _better_spots(self, cell):
        """The spots at which the bundles of a cell would be shorter if nothing else moved, each behind how much."""
        columns = self._lengths(cell, 0, 0)
        rows = self._lengths(cell, 1, 0)
        own = self.spots[cell]
        by_column = columns[own[0]] - min(list(columns.values()))
        by_row = rows[own[1]] - min(list(rows.values()))
        if by_column + by_row == 0:
            return []
        # A longer way over the columns is worth it if that over the rows becomes as much shorter.
        columns = self._lengths(cell, 0, by_row)
        rows = self._lengths(cell, 1, by_column)
        now = columns[own[0]] + rows[own[1]]
        found = []
        for x, length in columns.items():
            found.extend([(length + more - now, (x, y)) for y, more in rows.items() if length + more < now])
        return found

    def _lengths(self, cell, at, more):
        """What the bundles of a cell have as their lengths over columns (at 0) or rows (at 1) if it is there.

        Only those count at which that is not more than by a number greater than where the cell is. They lie side
        by side.
        """
        others = [self._others(number, cell, at) for number in self._bundles_of[cell]]
        own = self.spots[cell][at]
        found = {own: summed_length(others, own)}
        most = found[own] + more
        for step in (-1, 1):
            place = own + step
            while 0 <= place < self._sizes[at]:
                length = summed_length(others, place)
                if length > most:
                    break
                found[place] = length
                place += step
        return found

    def _change_of_other(self, cell, spot):
        """What is added to the sum if the cell at a spot, if there is one, comes to the old one of a cell that comes
        there; beside what that one's own bundles would change by if it came there alone.
        """
        if spot not in self._cells_at:
            return 0
        other = self._cells_at[spot]
        found = 0
        for number in self._bundles_of[other]:
            if number not in self._bundles_of[cell]:
                found += self._change_of(number, other, self.spots[cell])
        # What both have together is as long as before.
        for number in self._bundles_of[cell]:
            if number in self._bundles_of[other]:
                found -= self._change_of(number, cell, spot)
        return found

    def _change_of(self, number, cell, spot):
        """What a bundle is longer by if one of its cells alone comes to a spot."""
        found = 0
        for at in range(2):
            low, high = self._others(number, cell, at)
            bounds = self._bounds[number][at]
            found += max(high, spot[at]) - min(low, spot[at]) - (bounds[3] - bounds[0])
        return found

    def _swap(self, cell, spot):
        """Brings a cell to a spot, and the cell that is there to its old one."""
        old = self.spots[cell]
        numbers = list(self._bundles_of[cell])
        del self._cells_at[old]
        if spot in self._cells_at:
            other = self._cells_at[spot]
            self.spots[other] = old
            self._cells_at[old] = other
            numbers.extend(self._bundles_of[other])
        self.spots[cell] = spot
        self._cells_at[spot] = cell
        for number in numbers:
            self._bounds[number] = self._measured(self._bundles[number])


def summed_length(others, place):
    """The lengths of bundles whose other cells have these least and greatest numbers, one cell being at a place."""
    return sum([max(high, place) - min(low, place) for low, high in others])
