"""Where NEEDS lead, one behind another."""


def leading_to(needs, name):
    """The ascending tuple of the NAMES from which these NEEDS lead to name, itself too."""
    found = {name: True}
    ahead = [name]
    while ahead:
        goal = ahead.pop()
        for before, behind, _, _ in needs:
            if behind == goal and before not in found:
                found[before] = True
                ahead.append(before)
    return tuple(sorted(found))


def order_within_ship(names, needs):
    """The NAMES so that NEEDS with back 0 lead on only; None if there is a ring of these."""
    waiting = {name: True for name in names}
    inner = [(before, behind) for before, behind, back, _ in needs if back == 0]
    order = []
    while waiting:
        held = {behind: True for before, behind in inner if before in waiting}
        free = [name for name in waiting if name not in held]
        if not free:
            return None
        for name in free:
            del waiting[name]
        order.extend(free)
    return tuple(order)
