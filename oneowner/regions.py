"""The regions of the blocks of a function."""

NO_REGION = -1


def regions_of_blocks(blocks):
    """The list with the block that begins the region of each block, -1 for none; None if they are not right."""
    regions = [NO_REGION for _ in blocks]
    regions[0] = 0
    waiting = [0]
    while waiting:
        at = waiting.pop()
        for target, region in targets_of(blocks[at][1], regions[at]):
            # What begins a region is not come to before; inside of it one may come back to it.
            if regions[target] == NO_REGION:
                regions[target] = region
                waiting.append(target)
            elif regions[target] != region or begins_region(blocks[at][1], target):
                return None
    return regions if are_ends_right(blocks, regions) else None


def targets_of(way, region):
    """The pairs (block, its region) for the blocks to which a way in a region leads."""
    if way[0] == "par":
        return [(way[1], way[1]), (way[2], way[2]), (way[3], region)]
    return [(target, region) for target in blocks_of_way(way)]


def blocks_of_way(way):
    """The blocks to which a way that is no par leads."""
    if way[0] == "go":
        return way[1:]
    if way[0] == "branch":
        return way[2:]
    if way[0] == "switch":
        return way[2]
    return ()


def begins_region(way, target):
    """True if a way is a par one of whose sides begins with the block."""
    return way[0] == "par" and target in way[1:3]


def are_ends_right(blocks, regions):
    """True if joins end sides of a par alone, and returns the function's own region alone."""
    for block, region in zip(blocks, regions):
        if block[1][0] == "join" and region == 0:
            return False
        if block[1][0] == "return" and region > 0:
            return False
    return True
