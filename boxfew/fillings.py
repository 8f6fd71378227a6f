"""A good packing into the fewest boxes, found by filling box after box."""

from boxfew.weighings import fitting_sets


def fewest_filled(book):
    """Tell a good packing into the fewest boxes; there must be a good one."""
    count = len(book[1])
    needs = _needs(book)
    full = (1 << count) - 1
    # Sets of things are kept as bits. Each set that can fill the first boxes leads back to what
    # the boxes before the last of these bear.
    back = {0: 0}
    level = [0]
    while full not in back:
        level = _next_level(level, back, needs, full)
    return _packing(back, full, count)


def _needs(book):
    """Tell for each set that fits one box what may not stand behind it."""
    before = [0] * len(book[1])
    for one, other in book[3]:
        before[other] |= 1 << one
    needs = {}
    for things in fitting_sets(book):
        mask = 0
        need = 0
        for thing in things:
            mask |= 1 << thing
            need |= before[thing]
        needs[mask] = need
    return needs


def _next_level(level, back, needs, full):
    """Fill one box more behind each of the sets of a level, and tell the sets that are new."""
    found = []
    for mask in level:
        rest = full & ~mask
        box = rest
        while box:
            filled = mask | box
            if filled not in back and box in needs and not needs[box] & ~filled:
                back[filled] = mask
                found.append(filled)
            box = (box - 1) & rest
    return found


def _packing(back, full, count):
    packing = [0] * count
    boxes = []
    mask = full
    while mask:
        boxes.append(mask & ~back[mask])
        mask = back[mask]
    for box, held in enumerate(reversed(boxes)):
        for thing in range(count):
            if held >> thing & 1:
                packing[thing] = box
    return packing
