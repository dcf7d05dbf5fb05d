"""Numbers as words: least figures, "-" ahead of those below 0."""


def read_number(word, most):
    """The number of which the word is the text, of at most so many figures; None for any other word."""
    figures = word[1:] if word.startswith("-") else word
    if not 1 <= len(figures) <= most or not all(["0" <= figure <= "9" for figure in figures]):
        return None
    if figures[0] == "0" and word != "0":
        return None
    return int(word)


def read_numbers(words, most):
    """The tuple of the numbers of all words; None if one of them is no number."""
    found = [read_number(word, most) for word in words]
    return None if None in found else tuple(found)


def words_of(numbers):
    return [str(number) for number in numbers]
