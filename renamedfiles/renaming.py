"""Which renaming comes next, and how many there will be."""

# The sign ~ alone: no name may hold it, so no file can be in its way.
BETWEEN = (126,)


def next_renaming(names, wanted):
    waiting = [file for file in range(len(names)) if names[file] != wanted[file]]
    for file in waiting:
        if wanted[file] not in names:
            return (file, wanted[file])
    if len(waiting) == 0:
        return None
    return (waiting[0], BETWEEN)


def renamings_left(names, wanted):
    trial = list(names)
    count = 0
    renaming = next_renaming(trial, wanted)
    while renaming is not None:
        trial[renaming[0]] = renaming[1]
        count += 1
        renaming = next_renaming(trial, wanted)
    return count
