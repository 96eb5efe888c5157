"""Which settings are held in a space, and the base."""

from lastheld.settings import strongest_first


def ranking(space, settings):
    """All fields: those of the settings, strongest first, then the others in the sequence of the sheet."""
    fields = [setting[3] for setting in strongest_first(space.sheet(), settings)]
    return list({field: True for field in fields + space.sheet().fields()})


def holding_steps(space, settings):
    """Yield (setting, whether it is held) for each different setting, strongest first."""
    # A setting that is not held has a field that follows from stronger ones, so it does not matter for weaker ones.
    settled = space.following(ranking(space, settings))
    for setting in strongest_first(space.sheet(), settings):
        field = setting[3]
        yield (setting, field not in settled)
        settled.append(field)


def held(space, settings):
    """The list of the held settings, strongest first."""
    return [setting for setting, is_held in holding_steps(space, settings) if is_held]


def base(space, settings):
    """The base: the fields of the held settings, strongest first, then those that are held from the beginning."""
    ranked = ranking(space, settings)
    settled = space.following(ranked)
    return [field for field in ranked if field not in settled]


def held_and_base(space, settings):
    """The held settings and the base, for a class that has methods with these names."""
    return (held(space, settings), base(space, settings))
