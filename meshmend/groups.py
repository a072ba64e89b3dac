"""Groups: what pairs join to one, and in how many ways pairs can join all."""


def grouped(items, pairs):
    """Return a dict with a number for each item, the same one for items that the pairs join."""
    group = {item: number for number, item in enumerate(items)}
    for one, other in pairs:
        kept, given = group[one], group[other]
        group = {item: (kept if number == given else number) for item, number in group.items()}
    return group


def by_number(numbers):
    """Return a list of lists: the keys with the same number, in the order in which they came."""
    found = {}
    for item, number in numbers.items():
        found.setdefault(number, []).append(item)
    return list(found.values())


def parts(items, pairs):
    """Return the items as a list of lists, each with those that the pairs join."""
    return by_number(grouped(items, pairs))


def ways_to_join(items, pairs):
    """Return how many lots of the pairs join all items, with no pair to spare."""
    # The matrix-tree theorem: a row and a column for each item but one, how
    # many pairs an item has on the diagonal, and less one for each pair beside
    # it. A pair of an item with itself cancels out.
    table = {row: {col: 0 for col in items} for row in items}
    for one, other in pairs:
        table[one][one] += 1
        table[other][other] += 1
        table[one][other] -= 1
        table[other][one] -= 1
    return _determinant([[table[row][col] for col in items[1:]] for row in items[1:]])


def _determinant(rows):
    """Return the determinant of a matrix of integers that has no negative eigenvalue."""
    # Each division leaves no rest (Bareiss 1968). In such a matrix a pivot is 0
    # only if the determinant is.
    ahead = 1
    while rows:
        top, pivot = rows[0], rows[0][0]
        if pivot == 0:
            return 0
        rows = [
            [(row[k] * pivot - row[0] * top[k]) // ahead for k in range(1, len(top))]
            for row in rows[1:]
        ]
        ahead = pivot
    return ahead
