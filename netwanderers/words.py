"""Looking for a word: the shortest that leads somewhere, of like ones the first."""


def first_word(start, most, go, is_end):
    """The shortest word of letters from 0 to most that leads to an end, of like ones the first; None, if none does.

    Where one is behind a letter is told by go, whether that's an end by is_end.
    """
    words = {start: []}
    if is_end(start):
        return words[start]
    line = [start]
    at = 0
    # What's reached by an earlier word is gone on from earlier, by the lesser letter first: so words
    # come in their order, and whatever is reached again need not be gone on from again.
    while at < len(line):
        here = line[at]
        for letter in range(most + 1):
            there = go(here, letter)
            if there not in words:
                words[there] = words[here] + [letter]
                if is_end(there):
                    return words[there]
                line.append(there)
        at = at + 1
    return None
