"""Driving by the plain words of the points 4 to 6, as a second computation for the tests.

It looks at all pairs of cars, keeps nothing between two questions but ticks and orders, and uses
nothing of the package.
"""


def wide_section(order, ticks, paces, length):
    """Return the order at the end of a wide section, the ticks there, and the leaders."""
    left = {car: ticks[car] + paces[car] * length for car in order}
    after = [None] * len(order)
    for at, car in enumerate(order):
        ahead = 0
        for other_at, other in enumerate(order):
            if left[other] < left[car] or (left[other] == left[car] and other_at < at):
                ahead += 1
        after[ahead] = car
    return after, left, {car: None for car in order}


def narrow_section(order, ticks, paces, length):
    """Return the order at the end of a narrow section, the ticks there, and the leaders."""
    alone = [ticks[car] + paces[car] * length for car in order]
    left, leaders, follows = {}, {}, []
    for at, car in enumerate(order):
        left[car] = max(alone[:at + 1])
        follows.append(at > 0 and alone[at] < left[order[at - 1]])
        leaders[car] = None
        if follows[at]:
            leaders[car] = [order[k] for k in range(at) if not follows[k]][-1]
    return list(order), left, leaders


def rows(after, leaders):
    """Return the rows of a section from the order at its end."""
    found = []
    for car in after:
        if leaders[car] is None:
            found.append([car] + [other for other in after if leaders[other] == car])
    return found


def overtakings(section, before, after):
    """Return the overtakings in a section from the orders at its beginning and its end."""
    found = []
    for car in after:
        for other in before:
            if before.index(car) > before.index(other) and after.index(car) < after.index(other):
                found.append((section, car, other))
    return found


def plain_answers(sections, cars):
    """Return all that a drive tells, as a dict."""
    paces = {name: pace for name, _, pace in cars}
    ticks = {name: start for name, start, _ in cars}
    order = []
    for start in sorted({start for _, start, _ in cars}):
        order += [name for name, other_start, _ in cars if other_start == start]
    all_ticks, orders, leaders, all_rows, overtaken = [ticks], [order], [], [], []
    for section, (kind, length) in enumerate(sections):
        drive = wide_section if kind == "wide" else narrow_section
        after, ticks, led = drive(order, ticks, paces, length)
        all_ticks.append(ticks)
        orders.append(after)
        leaders.append([led[name] for name, _, _ in cars])
        all_rows.append(rows(after, led))
        if kind == "wide":
            overtaken += overtakings(section, order, after)
        order = after
    alone = {name: start + sum(pace * length for _, length in sections) for name, start, pace in cars}
    return {
        "ticks": [tuple(ticks[name] for ticks in all_ticks) for name, _, _ in cars],
        "orders": orders,
        "leaders": leaders,
        "rows": all_rows,
        "overtakings": overtaken,
        "losses": [(name, all_ticks[-1][name] - alone[name]) for name, _, _ in cars],
    }
