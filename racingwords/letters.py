"""What may be letters and words, and how words lie within one another."""

FEWEST_LETTERS = 2
MOST_LETTERS = 3
LEAST_WEIGHT = 1
GREATEST_WEIGHT = 10
SHORTEST_WORD = 1
LONGEST_WORD = 5


def are_weights(numbers):
    """Tell whether the numbers can be the weights of the letters."""
    if len(numbers) < FEWEST_LETTERS or len(numbers) > MOST_LETTERS:
        return False
    return all([LEAST_WEIGHT <= number <= GREATEST_WEIGHT for number in numbers])


def are_letters(numbers, weights):
    """Tell whether each of the numbers is one of the letters with these weights."""
    return all([0 <= number < len(weights) for number in numbers])


def is_word(numbers, weights):
    """Tell whether the numbers are a word of letters with these weights."""
    if len(numbers) < SHORTEST_WORD or len(numbers) > LONGEST_WORD:
        return False
    return are_letters(numbers, weights)


def words_of_length(length, letter_count):
    """Return all words of the length in their order."""
    words = [[]]
    for place in range(length):
        longer = []
        for word in words:
            longer.extend([word + [letter] for letter in range(letter_count)])
        words = longer
    return words


def ends_with(sequence, part):
    """Tell whether the last letters of the sequence are the part."""
    if len(part) > len(sequence):
        return False
    return sequence[len(sequence) - len(part):] == part


def is_contained(part, sequence):
    """Tell whether the part is a contiguous part of the sequence, or all of it."""
    for end in range(len(part), len(sequence) + 1):
        if ends_with(sequence[:end], part):
            return True
    return False


def word_at_end(words, sequence):
    """Return the number of the first word that the sequence ends with, or None."""
    for number, word in enumerate(words):
        if ends_with(sequence, word):
            return number
    return None


def first_occurrence(words, sequence):
    """Return the word that occurs first, as its number and how many letters it took, or None."""
    for count in range(1, len(sequence) + 1):
        number = word_at_end(words, sequence[:count])
        if number is not None:
            return (number, count)
    return None


def entangled_word(words, letters):
    """Return the number of the first word that contains the letters or lies in them, or None."""
    for number, word in enumerate(words):
        if is_contained(word, letters) or is_contained(letters, word):
            return number
    return None
