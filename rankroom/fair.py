"""Fair numbers, made of words that are handed in."""

# How many words there are: 2 to the 32nd.
WORDS = 4294967296


def fair_number(n, drawn):
    """A number below n and how many of the words drawn it took, or None if they are too few."""
    width = 0
    bound = 1
    while bound < n:
        width += 1
        bound *= WORDS
    taken = 0
    while taken + width <= len(drawn):
        product = as_one(drawn[taken:taken + width]) * n
        taken += width
        # Without this some numbers would come of one more x below the bound than others.
        if product % bound >= bound % n:
            return (product // bound, taken)
    return None


def as_one(drawn):
    """The words together as one number, the first one its lowest bits."""
    number = 0
    for word in reversed(drawn):
        number = number * WORDS + word
    return number
