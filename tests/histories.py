"""Drawn histories of replicas, for the tests of what holds after any of them."""

import random

import linear
from lastheld.errors import Refused
from lastheld.replicas import Replica
from lastheld.sheets import Sheet
from models import VALUES

LEVELS = [0, 0, 0, 1, 2]


def drawn_replica(source, width, calls=12):
    """A replica with so many fields after some calls, most of which change it."""
    replica = Replica(source.choice(["ann", "bo"]), Sheet(list(linear.LETTERS[:width])))
    for _ in range(calls):
        if source.random() < 0.25 and replica.freedom > 1:
            replica.add_equation(linear.random_row(source, width))
        else:
            draw_assignment(source, replica)
    return replica


def draw_assignment(source, replica):
    """Let a replica assign something, if it is not refused."""
    fields = list(replica.all_values())
    try:
        return replica.assign(source.choice(fields), source.choice(VALUES), level=source.choice(LEVELS))
    except Refused:
        return None


def drawn_replicas(count, seed, calls=12):
    source = random.Random(seed)
    return [drawn_replica(source, source.randint(1, 6), calls) for _ in range(count)]
