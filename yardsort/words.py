"""The words of a line, names, and the integers of a line."""

COMMAND_WITH_TEXT = "yard"
MOST_IN_NAME = 12
MOST_NUMBER = 99
# The percent sign does not stand in a string of this program.
PERCENT = 37


def is_sign(character):
    """Return whether a word may have a character."""
    return "!" <= character <= "~" and ord(character) != PERCENT


def _is_word(word):
    return word != "" and all([is_sign(character) for character in word])


def _words_with_text(rest):
    """Return the words of a line that has a text behind its second word, or None."""
    word, _, text = rest.partition(" ")
    return [COMMAND_WITH_TEXT, word, text] if _is_word(word) else None


def words_of(line):
    """Return the words of a line, or None if it is malformed."""
    start = COMMAND_WITH_TEXT + " "
    if line.startswith(start):
        return _words_with_text(line[len(start):])
    words = line.split(" ")
    return words if all([_is_word(word) for word in words]) else None


def is_name(word):
    """Return whether a word is a name."""
    return 1 <= len(word) <= MOST_IN_NAME and all(["a" <= letter <= "z" for letter in word])


def number_in(word):
    """Return the integer from 0 to 99 that a word is, or None."""
    # Words are looked up, because int() would take "01" and "+1", too.
    numbers = {str(number): number for number in range(MOST_NUMBER + 1)}
    return numbers.get(word)
