"""Widened roads and starts by the plain words of point 9, as a second computation for the tests."""

from plain_driving import plain_losses, plain_ticks


def widened(sections, chosen):
    """Return the sections of which the chosen ones are wide."""
    return [("wide", length) if at in chosen else (kind, length) for at, (kind, length) in enumerate(sections)]


def plain_loser(sections, cars, most, chosen):
    """Return the first car that loses more if the chosen sections are wide, too, or None."""
    for name, loss in plain_losses(widened(sections, chosen), cars):
        if loss > most:
            return name
    return None


def all_choices(sections):
    """Return all ascending lists of narrow sections."""
    choices = [[]]
    for at, (kind, _) in enumerate(sections):
        if kind == "narrow":
            choices += [chosen + [at] for chosen in choices]
    return choices


def plain_fewest(sections, cars, most):
    """Return the least one of all lists that are enough, by their lengths and then as lists."""
    enough = [
        chosen for chosen in all_choices(sections) if plain_loser(sections, cars, most, chosen) is None
    ]
    return min(enough, key=lambda chosen: (len(chosen), chosen))


def plain_harmful(sections, cars):
    """Return all tuples of a section and a car that arrives later if this section is wide."""
    ticks = plain_ticks(sections, cars)
    harmful = []
    for section in range(len(sections)):
        wider = plain_ticks(widened(sections, [section]), cars)
        harmful += [(section, name) for name, _, _ in cars if wider[name][-1] > ticks[name][-1]]
    return harmful


def moved(cars, name, start):
    """Return the cars, one of them with another start."""
    return tuple((car[0], start if car[0] == name else car[1], car[2]) for car in cars)


def plain_arrival(sections, cars, name, start):
    """Return the arrival of a car that has another start."""
    return plain_ticks(sections, moved(cars, name, start))[name][-1]


def plain_latest_start(sections, cars, name, deadline):
    """Return the first start that is early enough, by trying one after the other from the latest on."""
    pace = {car[0]: car[2] for car in cars}[name]
    alone = pace * sum(length for _, length in sections)
    for start in range(min(10 ** 6, deadline - alone), -1, -1):
        if plain_arrival(sections, cars, name, start) <= deadline:
            return start
    return None
