"""Which settings are held in a space, and the base."""

from lastheld.settings import strongest_first


def holding_steps(space, settings):
    """Yield (setting, whether it is held) for each different setting, strongest first."""
    holders = []
    following = space.determined(holders)
    for setting in strongest_first(space.sheet(), settings):
        field = setting[3]
        is_held = field not in following
        if is_held:
            holders.append(field)
            following = space.determined(holders)
        yield (setting, is_held)


def held(space, settings):
    """The list of the held settings, strongest first."""
    return [setting for setting, is_held in holding_steps(space, settings) if is_held]


def base(space, settings):
    """The base: the fields of the held settings, strongest first, then those that are held from the beginning."""
    chosen = [setting[3] for setting in held(space, settings)]
    for field in space.sheet().fields():
        if field not in space.determined(chosen):
            chosen.append(field)
    return chosen
