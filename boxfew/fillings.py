"""Boxes filled one behind another; sets of things are kept as bits, the lowest for thing 0."""

from boxfew.weighings import fitting_sets


def onward(book):
    """Tell for each set, borne by boxes in a row, what they bear with one more box behind, that bears something."""
    full = (1 << len(book[1])) - 1
    needs = _needs(book)
    return [_with_one_more(mask, needs, full) for mask in range(full + 1)]


def sums(parts):
    """Tell for each set what its things' parts are together."""
    found = [0]
    for part in parts:
        found = found + [total + part for total in found]
    return found


def fewest_filled(book):
    """Tell a good packing into the fewest boxes; there must be a good one."""
    ways = onward(book)
    full = len(ways) - 1
    # Each set that can fill the first boxes leads back to what the boxes before the last of these bear.
    back = {0: 0}
    level = [0]
    while full not in back:
        level = _next_level(level, back, ways)
    return _packing(back, full, len(book[1]))


def _needs(book):
    """Tell for each set that fits one box what may not stand behind it."""
    before = [0] * len(book[1])
    for one, other in book[3]:
        before[other] |= 1 << one
    needs = {}
    for things in fitting_sets(book):
        mask = 0
        need = 0
        for thing in things:
            mask |= 1 << thing
            need |= before[thing]
        needs[mask] = need
    return needs


def _with_one_more(mask, needs, full):
    rest = full & ~mask
    found = []
    held = rest
    while held:
        filled = mask | held
        if held in needs and not needs[held] & ~filled:
            found.append(filled)
        held = (held - 1) & rest
    return found


def _next_level(level, back, ways):
    """Fill one box more behind each of the sets of a level, and tell the sets that are new."""
    found = []
    for mask in level:
        for filled in ways[mask]:
            if filled not in back:
                back[filled] = mask
                found.append(filled)
    return found


def _packing(back, full, count):
    packing = [0] * count
    boxes = []
    mask = full
    while mask:
        boxes.append(mask & ~back[mask])
        mask = back[mask]
    for box, held in enumerate(reversed(boxes)):
        for thing in range(count):
            if held >> thing & 1:
                packing[thing] = box
    return packing
