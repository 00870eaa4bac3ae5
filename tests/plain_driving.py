"""Driving by the plain words of the points 4 to 6, as a second computation for the tests.

It looks at all pairs of cars, keeps nothing between two questions but ticks and orders, and uses
nothing of the package.
"""


def wide_section(order, ticks, paces, length):
    """Return the order at the end of a wide section, the ticks there, and the leaders."""
    left = {car: ticks[car] + paces[car] * length for car in order}
    after = [None] * len(order)
    for at, car in enumerate(order):
        ahead = 0
        for other_at, other in enumerate(order):
            if left[other] < left[car] or (left[other] == left[car] and other_at < at):
                ahead += 1
        after[ahead] = car
    return after, left, {car: None for car in order}


def narrow_section(order, ticks, paces, length):
    """Return the order at the end of a narrow section, the ticks there, and the leaders."""
    alone = [ticks[car] + paces[car] * length for car in order]
    left, leaders, follows = {}, {}, []
    for at, car in enumerate(order):
        left[car] = max(alone[:at + 1])
        follows.append(at > 0 and alone[at] < left[order[at - 1]])
        leaders[car] = None
        if follows[at]:
            leaders[car] = [order[k] for k in range(at) if not follows[k]][-1]
    return list(order), left, leaders


def rows(after, leaders):
    """Return the rows of a section from the order at its end."""
    found = []
    for car in after:
        if leaders[car] is None:
            found.append([car] + [other for other in after if leaders[other] == car])
    return found


def overtakings(section, before, after):
    """Return the overtakings in a section from the orders at its beginning and its end."""
    found = []
    for car in after:
        for other in before:
            if before.index(car) > before.index(other) and after.index(car) < after.index(other):
                found.append((section, car, other))
    return found


def plain_drive(sections, cars):
    """Return the ticks and the orders at all places, and the leaders in all sections, as dicts.

    There may be any number of cars, and their names may be any keys.
    """
    paces = {name: pace for name, _, pace in cars}
    ticks = {name: start for name, start, _ in cars}
    order = []
    for start in sorted({start for _, start, _ in cars}):
        order += [name for name, other_start, _ in cars if other_start == start]
    all_ticks, orders, leaders = [ticks], [order], []
    for kind, length in sections:
        drive = wide_section if kind == "wide" else narrow_section
        order, ticks, led = drive(order, ticks, paces, length)
        all_ticks.append(ticks)
        orders.append(order)
        leaders.append(led)
    return all_ticks, orders, leaders


def plain_ticks(sections, cars):
    """Return a dict from each car to the tuple of its ticks at all places."""
    all_ticks, _, _ = plain_drive(sections, cars)
    return {name: tuple(ticks[name] for ticks in all_ticks) for name, _, _ in cars}


def plain_losses(sections, cars):
    """Return a list of tuples of each car and what it loses."""
    ticks = plain_ticks(sections, cars)
    losses = []
    for car in cars:
        alone = plain_ticks(sections, (car,))[car[0]]
        losses.append((car[0], ticks[car[0]][-1] - alone[-1]))
    return losses


def plain_answers(sections, cars):
    """Return all that a drive tells, as a dict."""
    _, orders, leaders = plain_drive(sections, cars)
    overtaken = []
    for section, (kind, _) in enumerate(sections):
        if kind == "wide":
            overtaken += overtakings(section, orders[section], orders[section + 1])
    return {
        "ticks": list(plain_ticks(sections, cars).values()),
        "orders": orders,
        "leaders": [[led[name] for name, _, _ in cars] for led in leaders],
        "rows": [rows(orders[section + 1], led) for section, led in enumerate(leaders)],
        "overtakings": overtaken,
        "losses": plain_losses(sections, cars),
    }
