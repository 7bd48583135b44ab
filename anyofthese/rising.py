"""The least times that keep rules and are not ahead of floors, found from below ([41] to [43]).

Rules are rows here: tuples of a left and a dict from its alternatives to their shifts. Each moment is held by its
floor (None) or by one of its rows (its position), and at first by its floor. As long as rows are broken, their lefts
are held by these instead. Then a ring of moments that hold one another always gains more than 0, so the times go up
in each step, no holds come twice, and the steps end however great the shifts are.
"""


def rows_of(rules):
    """The rows of Rules, at the same positions."""
    return [(rule.moment, rule.earliest.shifts()) for rule in rules]


def value_of(shifts, times):
    """The least value of these terms."""
    return min([times[moment] + shifts[moment] for moment in shifts])


def are_kept(rows, times):
    """Whether the times keep all rows."""
    for left, shifts in rows:
        for moment in shifts:
            if times[left] >= times[moment] + shifts[moment]:
                break
        else:
            return False
    return True


def broken_most(rows, times):
    """The dict from each left of a row that the times break to the position of the one with the greatest value."""
    greatest = dict(times)
    found = {}
    for position, (left, shifts) in enumerate(rows):
        value = value_of(shifts, times)
        if value > greatest[left]:
            greatest[left] = value
            found[left] = position
    return found


def held_times(rows, floors, holds):
    """The times at which the holds let the moments stay; those that no chain of holds brings to a floor have none."""
    times = {moment: floors[moment] for moment in holds if holds[moment] is None}
    held = [(moment, rows[holds[moment]][1]) for moment in holds if holds[moment] is not None]
    moving = True
    while moving:
        moving = False
        for left, shifts in held:
            bounds = [times[moment] + shifts[moment] for moment in shifts if moment in times]
            if bounds and (left not in times or min(bounds) < times[left]):
                times[left] = min(bounds)
                moving = True
    return times


def settled(rows, floors):
    """The least times that keep all rows and are not ahead of the floors, and the holds of all moments at them.

    If no times keep all rows, these are the times of some moments alone; the holds of the others never let them stay.
    """
    times = dict(floors)
    holds = {moment: None for moment in sorted(floors)}
    while len(times) == len(floors):
        broken = broken_most(rows, times)
        if not broken:
            break
        holds = {**holds, **broken}
        times = held_times(rows, floors, holds)
    return times, holds


def settled_in_part(rows, floors, moments):
    """The least times if only some of the moments have floors, and the sorted list of the loose ones.

    These are the ones that nothing holds. Their floors are set so low that they cannot reach up to the others: behind
    the shifts of as many rows as there are moments a time is still below the middle between both."""
    sizes = [abs(shift) for row in rows for shift in row[1].values()]
    far = len(moments) * max([0, *sizes]) + 1
    least = min(list(floors.values()))
    times, _ = settled(rows, {moment: floors.get(moment, least - 2 * far) for moment in moments})
    return times, [moment for moment in sorted(times) if times[moment] < least - far]


def holds_in_sequence(rows, times, holds):
    """The list of (moment, hold), each behind the moments whose terms in its hold have just its time [42]."""
    placed = {moment: True for moment in holds if holds[moment] is None}
    sequence = [(moment, None) for moment in placed]
    while len(sequence) < len(holds):
        for left in holds:
            if left not in placed:
                shifts = rows[holds[left]][1]
                if all([moment in placed or times[moment] + shifts[moment] > times[left] for moment in shifts]):
                    placed[left] = True
                    sequence.append((left, holds[left]))
    return sequence


def numbers_below(moments, gains):
    """The greatest numbers of at most 0 such that in each (left, moment, gain) that of the left is at most that of the
    moment and the gain. There are such ones if no ring of these gains less than 0."""
    numbers = {moment: 0 for moment in moments}
    moving = True
    while moving:
        moving = False
        for left, moment, gain in gains:
            if numbers[moment] + gain < numbers[left]:
                numbers[left] = numbers[moment] + gain
                moving = True
    return numbers


def endless_numbers(rows, holds):
    """A number for each of these moments, whose holds have no other alternatives and gain along each ring [51].

    Along a ring of at most m moments the shifts add up to 1 or more, so with m * k - 1 for the shift k to 0 or more."""
    many = len(holds)
    held = [(left, rows[holds[left]][1]) for left in holds]
    gains = [(left, moment, many * shifts[moment] - 1) for left, shifts in held for moment in shifts]
    return numbers_below(holds, gains)
