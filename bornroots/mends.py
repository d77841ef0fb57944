"""How drives get the promised rows that they lack (point 8.1 of the document)."""


def mend(drives, rows, goals, sources):
    """Put each row on each goal on which it does not fit, and tell the list of (place, drive) that were put."""
    put = []
    for place, kind, number in sorted(rows):
        for goal in sorted(goals):
            if drives.fitting(kind, place, number, only=(goal,)) is None:
                source = drives.fitting(kind, place, number, only=sources)
                if source is not None:
                    drives.put(place, drives.cell(source, place), only=(goal,))
                    put.append((place, goal))
    if put:
        drives.flush()
    return put
