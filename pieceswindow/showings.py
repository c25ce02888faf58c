"""What follows from the showings of a hearer, and from the arrivals that it heard."""


def whole_text(showing):
    """The index of the text of which a showing has all parts, or None if they are of several texts."""
    texts = showing[2]
    return texts[0] if texts.count(texts[0]) == len(texts) else None


def shown_counts(showings):
    """The pairs (text, many) for each text of which showings have all parts, ascending."""
    counts = {}
    for text in [whole_text(showing) for showing in showings]:
        if text is not None:
            counts[text] = counts.get(text, 0) + 1
    return tuple(sorted([(text, counts[text]) for text in counts]))


def missed_among(n, arrivals, showings):
    """The set of the texts of which all n parts arrived, and of which no showing has all parts."""
    counts = {}
    for text, _ in sorted({(text, part) for _, text, part in arrivals}):
        counts[text] = counts.get(text, 0) + 1
    shown = {whole_text(showing): True for showing in showings}
    return tuple(sorted([text for text in counts if counts[text] == n and text not in shown]))


def harms_among(showings, missed):
    """The set of the harms, by the showings and by the texts that are missed."""
    harms = []
    if any([whole_text(showing) is None for showing in showings]):
        harms.append("joined")
    if missed != ():
        harms.append("missed")
    if any([many >= 2 for _, many in shown_counts(showings)]):
        harms.append("twice")
    return tuple(harms)
