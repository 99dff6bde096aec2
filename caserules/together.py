"""Which rules can't be kept together, and which follow from the others."""

from caserules.search import earliest_row


def one_larger(chosen, many):
    """The sets that have one more number, below many, behind those chosen, in order."""
    first = chosen[-1] + 1 if len(chosen) > 0 else 0
    return [chosen + [which] for which in range(first, many)]


def sets_in_order(many):
    """The sets of numbers below many: fewer numbers first, then the lower number at the first place that differs."""
    told = []
    front = [[]]
    while len(front) > 0:
        told.extend(front)
        larger = []
        for chosen in front:
            larger.extend(one_larger(chosen, many))
        front = larger
    return told


def holds_all(chosen, part):
    return all([which in chosen for which in part])


def can_be_kept(spots, chosen):
    """Whether some row keeps all the chosen rules, whatever it does with the others."""
    for broken in spots.broken:
        if not any([which in broken for which in chosen]):
            return True
    return False


def clashes_of(spots, many):
    """The sets of rules that no row keeps all of, while leaving out any of them some row does; many rules there are.

    What a larger set leaves out has been looked at ahead of it: it need only hold no set that clashes already.
    """
    found = []
    for chosen in sets_in_order(many):
        known = any([holds_all(chosen, clash) for clash in found])
        if not known and not can_be_kept(spots, chosen):
            found.append(chosen)
    return found


def spare_of(spots, many):
    """The rules that no row breaks while it keeps all the others."""
    return [which for which in range(many) if earliest_row(spots, [which]) is None]
