"""Lines: what is told for all wished strengths, or for all steps, at once."""


def greatest_lines(lines, begin):
    """Return triples (begin, base, slope) of the greatest of lines (base, slope), from begin on."""
    triples = []
    while begin is not None:
        value = greatest_at(lines, begin)
        slope = greatest_at(lines, begin + 1) - value
        base = value - slope * begin
        triples.append((begin, base, slope))
        begin = first_above(lines, base, slope)
    return tuple(triples)


def greatest_at(lines, at):
    """Return the greatest value that one of the lines has there."""
    return max([base + slope * at for base, slope in lines])


def first_above(lines, base, slope):
    """Return where a line rises first above the told one, which is as high as they are at two neighbouring places.

    Only a steeper line can rise above it, and it does so behind these places. None is returned if there is none.
    """
    # At (base - its base) / (its slope - slope) a steeper line crosses; at the next integer it is above.
    begins = [(base - low) // (steep - slope) + 1 for low, steep in lines if steep > slope]
    return min(begins) if begins else None
