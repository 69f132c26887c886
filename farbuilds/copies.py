"""Where the items of a row stand in the old row, or further ahead in the row itself."""


def longest_copies(old, row):
    """Tell, for each place of a row, the old or own step that writes most of the row's items from there on.

    Each step (word, at, many) stands for the shorter ones from the same place, too; many is 0 where there is none.
    """
    from_old = runs_alike(old, row)
    from_row = runs_alike(row, row)
    return [longest_copy(from_old, from_row, place) for place in range(len(row))]


def longest_copy(from_old, from_row, place):
    """Tell the longest copy to a place, out of what runs_alike told of the old row and of the row itself."""
    copies = [("old", at, runs[place]) for at, runs in enumerate(from_old)]
    copies.extend([("own", at, from_row[at][place]) for at in range(place)])
    return max(copies, key=lambda step: step[2], default=("old", 0, 0))


def runs_alike(source, row):
    """Tell a list for each place of the source: for each place of the row, how many items from both on are alike."""
    runs = []
    behind = [0] * (len(row) + 1)
    for item in reversed(source):
        # A run is one longer than that from the next places of both, or breaks off here.
        behind = [behind[place + 1] + 1 if item == other else 0 for place, other in enumerate(row)] + [0]
        runs.append(behind)
    return runs[::-1]
