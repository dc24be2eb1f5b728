"""Readings of nets and maps between nets, unchecked."""

from netsredrawn.steps import all_parts, met_flags, renumbered_net


def reading(net, flag):
    """The reading of the part of a flag, from this flag."""
    return renumbered_net(net, met_flags(net, flag))


def least_part_form(net, part):
    """The least of the readings from the flags of a part."""
    return min([reading(net, flag) for flag in part])


def led_along(net, other_net, flag, image):
    """The map of the part of flag that leads flag to image along with all changes, or None.

    It is a dict, and need not be one-to-one.
    """
    images = {flag: image}
    order = [flag]
    at = 0
    while at < len(order):
        here = order[at]
        at += 1
        for change in range(3):
            there = net[change][here]
            told = other_net[change][images[here]]
            if there not in images:
                images[there] = told
                order.append(there)
            elif images[there] != told:
                return None
    return images


def map_row(images):
    """The tuple of the images of the flags 0, 1 and so on."""
    return tuple([images[flag] for flag in range(len(images))])


def joined_maps(net, other_net):
    """All maps of a joined net to another net along with all changes, ascending."""
    rows = []
    for image in range(len(other_net[0])):
        images = led_along(net, other_net, 0, image)
        if images is not None:
            rows.append(map_row(images))
    return rows


def first_joined_map(net, other_net):
    """The first of these maps, or None."""
    for image in range(len(other_net[0])):
        images = led_along(net, other_net, 0, image)
        if images is not None:
            return map_row(images)
    return None


def _first_part_map(net, other_net, part, left):
    """The pair of the number of a part in left and the one-to-one map onto it with the least image."""
    best = None
    for number, other_part in enumerate(left):
        if len(other_part) != len(part):
            continue
        for image in other_part:
            if best is not None and image > best[0]:
                break
            images = led_along(net, other_net, part[0], image)
            if images is not None:
                best = (image, number, images)
                break
    return best


def least_likeness(net, other_net):
    """The least likeness of two nets, or None.

    Which of its alike parts a part is led to leaves no less to choose for the others, so
    that each part, by least flags, may take the least image that it can have.
    """
    if len(net[0]) != len(other_net[0]):
        return None
    left = list(all_parts(other_net))
    told = {}
    for part in all_parts(net):
        best = _first_part_map(net, other_net, part, left)
        if best is None:
            return None
        images = best[2]
        for flag in images:
            told[flag] = images[flag]
        del left[best[1]]
    return map_row(told)


def image_fault(net, other_net, images):
    """The least flag whose image stands ahead of it already or does not fit, or None."""
    met = {}
    for flag, image in enumerate(images):
        if image in met:
            return flag
        met[image] = True
        for change in range(3):
            if images[net[change][flag]] != other_net[change][image]:
                return flag
    return None
