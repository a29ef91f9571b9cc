"""Maskin monotonicity: the monotonic closure, and the first violation."""

from peakchoice.bitsets import full_mask, members
from peakchoice.profiles import profile_at
from peakchoice.rankings import kept_mask


def closed_masks(domains, masks):
    """The monotonic closure of the correspondence."""
    return gathered_masks(masks, [kept_table(domain) for domain in domains])


def gathered_masks(masks, tables):
    """For each profile all alternatives of the masks that every agent's table lets pass from their profile to it."""
    # Each table speaks of one agent by itself, so one agent's preference can be
    # changed after another's, which takes far fewer steps than all pairs of profiles.
    step = len(masks)
    gathered = masks
    for table in tables:
        step = step // len(table)
        gathered = gathered_for_agent(gathered, table, step)
    return gathered


def gathered_for_agent(masks, table, step):
    """The same where this agent's preference alone changes; its next one is step profiles further."""
    gathered = []
    for position in range(len(masks)):
        target = position // step % len(table)
        start = position - target * step
        mask = 0
        for source in range(len(table)):
            mask = mask | (masks[start + source * step] & table[source][target])
        gathered.append(mask)
    return gathered


def kept_table(domain):
    """For each old and each new preference the mask of the alternatives that aren't lowered."""
    table = []
    for old_ranking in domain:
        table.append([kept_mask(old_ranking, new_ranking) for new_ranking in domain])
    return table


def turned_table(table):
    """The table with each two preferences exchanged."""
    turned = []
    for k in range(len(table)):
        turned.append([row[k] for row in table])
    return turned


def first_violation(alternative_count, domains, masks):
    """The first monotonicity violation: x and the positions of p and q; None if there is none."""
    lost = lost_masks(alternative_count, domains, masks)
    for p in range(len(masks)):
        violating = masks[p] & lost[p]
        if violating != 0:
            x = members(violating)[0]
            return [x, p, first_that_lacks(domains, masks, x, p)]
    return None


def lost_masks(alternative_count, domains, masks):
    """For each profile the alternatives that aren't lowered to some profile in which they aren't acceptable."""
    # Going back from the profiles that lack an alternative finds them for all profiles at once.
    lacking = [full_mask(alternative_count) - mask for mask in masks]
    return gathered_masks(lacking, [turned_table(kept_table(domain)) for domain in domains])


def first_that_lacks(domains, masks, x, p):
    """The first profile to which x isn't lowered from p and in which it isn't acceptable."""
    kept = kept_from(domains, profile_at(domains, p), 1 << x)
    return [q for q in range(len(masks)) if kept[q] & ~masks[q] != 0][0]


def kept_from(domains, profile, mask):
    """For each profile, in order, what of the mask isn't lowered from this profile to it."""
    kept = [mask]
    for domain, k in zip(domains, profile):
        kept = narrowed(kept, [kept_mask(domain[k], ranking) for ranking in domain])
    return kept


def narrowed(masks, further):
    """Each mask, cut down to each of the further ones in turn."""
    cut = []
    for mask in masks:
        for other in further:
            cut.append(mask & other)
    return cut
