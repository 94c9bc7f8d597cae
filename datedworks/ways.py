"""Ways of dating: whether works and evidence leave one, and the latest and the earliest days in them.

works is a dict from keys to (first, last), the stated interval. evidence is a dict from keys
to (kind, u, v, amount); of the kinds NOT_BEFORE and NOT_AFTER u is the work, v is 0 and amount the day.
"""

NOT_BEFORE = 0
NOT_AFTER = 1
FOLLOWS = 2
WITHIN = 3


def outer_days(works, evidence):
    """For each work the last day that its own interval and evidence about it alone allow."""
    latest = {}
    for key, interval in works.items():
        latest[key] = interval[1]
    for kind, u, v, amount in evidence.values():
        if kind == NOT_AFTER:
            latest[u] = min(latest[u], amount)
    return latest


def drawn_in(latest, evidence):
    """These days once more, each brought down to what the days of other works allow."""
    closer = dict(latest)
    for kind, u, v, amount in evidence.values():
        if kind == FOLLOWS:
            closer[u] = min(closer[u], closer[v] - amount)
        elif kind == WITHIN:
            closer[v] = min(closer[v], closer[u] + amount)
    return closer


def latest_days(works, evidence):
    """The latest day of each work where nothing holds it from below; None if the evidence contradicts itself."""
    latest = outer_days(works, evidence)
    # What bounds a work comes over each other work at most once, unless a ring of evidence sinks without end.
    for turn in range(len(works) + 1):
        closer = drawn_in(latest, evidence)
        if closer == latest:
            return latest
        latest = closer
    return None


def mirrored_works(works):
    mirrored = {}
    for key, interval in works.items():
        mirrored[key] = (-interval[1], -interval[0])
    return mirrored


def mirrored_evidence(evidence):
    mirrored = {}
    for key, piece in evidence.items():
        mirrored[key] = mirrored_piece(piece[0], piece[1], piece[2], piece[3])
    return mirrored


def mirrored_piece(kind, u, v, amount):
    if kind == NOT_BEFORE:
        return (NOT_AFTER, u, v, -amount)
    if kind == NOT_AFTER:
        return (NOT_BEFORE, u, v, -amount)
    return (kind, v, u, amount)


def earliest_days(works, evidence):
    """The earliest day of each work, where there is a way of dating."""
    # With each day d read as -d, what was earliest is latest.
    latest = latest_days(mirrored_works(works), mirrored_evidence(evidence))
    earliest = {}
    for key, day in latest.items():
        earliest[key] = -day
    return earliest


def has_way(works, evidence):
    # The latest days meet all that bounds from above and between works, and no way of dating is later anywhere:
    # so there is a way just if they also meet what bounds from below.
    latest = latest_days(works, evidence)
    if latest is None:
        return False
    for key, interval in works.items():
        if latest[key] < interval[0]:
            return False
    for kind, u, v, amount in evidence.values():
        if kind == NOT_BEFORE and latest[u] < amount:
            return False
    return True
