"""Groups, loose groups, knots and colours of webs."""

from huebill.webs.webs import check_group, check_web, is_group_of


def groups(web):
    """All groups, ascending."""
    check_web(web)
    found = [()]
    for thing in web.things:
        found = found + [group + (thing,) for group in found]
    return tuple(sorted(found))


def is_group(web, value):
    """Whether the value is a group."""
    check_web(web)
    return is_group_of(web.things, value)


def is_loose(web, value):
    """Whether the value is a loose group."""
    return is_group(web, value) and all([not _meets(value, web.beside(thing)) for thing in value])


def is_knot(web, value):
    """Whether the value is a knot."""
    check_web(web)
    return is_loose(web.turned(), value)


def loose_groups(web):
    """All loose groups but the empty one, ascending."""
    check_web(web)
    found = [()]
    for thing in web.things:
        beside = web.beside(thing)
        found = found + [group + (thing,) for group in found if not _meets(group, beside)]
    return tuple(sorted(found)[1:])


def full_loose(web):
    """The loose groups into which no other thing can be put, ascending."""
    return tuple([group for group in loose_groups(web) if _is_full(web, group)])


def full_knots(web):
    """The knots into which no other thing can be put, ascending."""
    check_web(web)
    return full_loose(web.turned())


def greatest_knots(web):
    """The knots with the most things, ascending."""
    knots = full_knots(web)
    most = max([len(knot) for knot in knots])
    return tuple([knot for knot in knots if len(knot) == most])


def colours(web, group=None):
    """The colours of a group, or of all things."""
    check_web(web)
    if group is None:
        return len(colouring(web, web.things))
    return len(colouring(web, group))


def is_colouring(web, group, value):
    """Whether the value is an ascending tuple of as few loose groups as possible that part the group."""
    check_web(web)
    check_group(web, group)
    if not isinstance(value, tuple) or not all([is_loose(web, part) and len(part) > 0 for part in value]):
        return False
    held = [thing for part in value for thing in part]
    if sorted(held) != list(group) or sorted(value) != list(value):
        return False
    return len(value) == colours(web, group)


def colouring(web, group):
    """An ascending tuple of as few loose groups as possible that part the group."""
    check_web(web)
    check_group(web, group)
    many = 0
    found = _parted(web, group, many, ())
    while found is None:
        many += 1
        found = _parted(web, group, many, ())
    return found


def is_enough(web):
    """Whether a greatest knot has as many things as the web has colours."""
    return len(greatest_knots(web)[0]) == colours(web)


def is_for_groups(web, value):
    """Whether the value is a dict with all groups but the empty one as keys, and nothing else."""
    check_web(web)
    if not isinstance(value, dict) or not all([is_group_of(web.things, key) for key in value]):
        return False
    return sorted(value) == list(groups(web)[1:])


def colours_of_groups(web):
    """The dict from all groups to their colours."""
    counts = colours_by_mask(web)
    return {group: counts[mask_of(web, group)] for group in groups(web)}


def colours_by_mask(web):
    """The colours of all groups, each at its mask."""
    check_web(web)
    loose = [mask_of(web, group) for group in loose_groups(web)]
    counts = [0]
    for mask in range(1, 1 << len(web)):
        # Some loose group of a colouring holds the first thing; all others are a colouring of what is left.
        first = mask & -mask
        counts.append(1 + min([counts[mask - part] for part in loose if part & first and part & mask == part]))
    return counts


def mask_of(web, group):
    """The group as one number, which has a bit for each of its things: the first thing of the web has the first bit."""
    return sum([1 << at for at, thing in enumerate(web.things) if thing in group])


def _meets(group, beside):
    return any([thing in beside for thing in group])


def _is_full(web, group):
    return all([thing in group or _meets(group, web.beside(thing)) for thing in web.things])


def _parted(web, rest, many, parts):
    """The parts with the rest of the things put in, so that they stay loose and are at most so many; or None."""
    if len(rest) == 0:
        return parts
    thing = rest[0]
    beside = web.beside(thing)
    for at, part in enumerate(parts):
        if not _meets(part, beside):
            found = _parted(web, rest[1:], many, parts[:at] + (part + (thing,),) + parts[at + 1:])
            if found is not None:
                return found
    if len(parts) == many:
        return None
    return _parted(web, rest[1:], many, parts + ((thing,),))
