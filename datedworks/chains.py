"""Chains of evidence that bound a work's day from above.

works and evidence are laid out as the module ways tells; latest is the dict of all reckoned days.
"""

from datedworks.ways import FOLLOWS, NOT_AFTER, WITHIN, latest_days

# The rest that stands for the last day of a work's stated interval.
STATED_REST = 0


def links_of(evidence):
    """By rising keys: the work that a link starts from, the work at which it arrives, and what it adds."""
    links = {}
    for key, piece in sorted(evidence.items()):
        if piece[0] == FOLLOWS:
            links[key] = (piece[1], piece[2], -piece[3])
        elif piece[0] == WITHIN:
            links[key] = (piece[2], piece[1], piece[3])
    return links


def rests_of(works, evidence, work):
    """By rising numbers: the rests that a chain can have at this work, and their days."""
    rests = {STATED_REST: works[work][1]}
    for key, piece in sorted(evidence.items()):
        if piece[0] == NOT_AFTER and piece[1] == work:
            rests[key] = piece[3]
    return rests


def chain_day(works, evidence, work, chain):
    """The day that the chain gives for the work; None if it's no chain for it."""
    if len(chain) == 0:
        return None
    links = links_of(evidence)
    reached = work
    added = 0
    for number in chain[:-1]:
        if number not in links or links[number][0] != reached:
            return None
        reached = links[number][1]
        added = added + links[number][2]
    rests = rests_of(works, evidence, reached)
    if chain[-1] not in rests:
        return None
    return rests[chain[-1]] + added


def chains_without_links(works, evidence, latest):
    """For each work whose reckoned day some rest alone gives: the chain of the least such rest."""
    chains = {}
    for work in works:
        for number, day in rests_of(works, evidence, work).items():
            if day == latest[work] and work not in chains:
                chains[work] = [number]
    return chains


def binding_links(evidence, latest):
    """The links, by rising keys, over which a reckoned day comes from another one."""
    binding = {}
    for key, link in links_of(evidence).items():
        if latest[link[0]] == latest[link[1]] + link[2]:
            binding[key] = link
    return binding


def with_one_link_more(chains, links):
    """These chains, and for works that have none yet the least chain that starts with a link and goes on as these."""
    longer = dict(chains)
    for key, link in links.items():
        if link[1] in chains and link[0] not in longer:
            longer[link[0]] = [key] + chains[link[1]]
    return longer


def least_chain(works, evidence, work):
    """Of the chains that give the work's reckoned day, among those with the fewest links the least."""
    latest = latest_days(works, evidence)
    # No chain gives less than a reckoned day: so where a whole chain gives it, each of its links and its rest
    # gives the reckoned day of the work at which it stands.
    links = binding_links(evidence, latest)
    chains = chains_without_links(works, evidence, latest)
    while work not in chains:
        chains = with_one_link_more(chains, links)
    return chains[work]
