"""What a whole number, a name, a number's text, figures and an edge number's letters are."""

GREAT_LETTERS = "ABCDEFGHIJKLMNOPQRSTUVWXYZ"
SMALL_LETTERS = "abcdefghijklmnopqrstuvwxyz"
FIGURES = "0123456789"
LONGEST_NAME = 8
LONGEST_NUMBER = 9


def is_whole(value):
    return isinstance(value, int) and not isinstance(value, bool)


# isalpha, isdigit and their like take signs of other alphabets too, so the
# signs that are allowed are written out.
def has_only(text, signs):
    return all([sign in signs for sign in text])


def are_figures(text):
    return has_only(text, FIGURES)


def are_letters(value):
    return isinstance(value, str) and len(value) == 2 and has_only(value, GREAT_LETTERS)


def is_name(value):
    return isinstance(value, str) and 1 <= len(value) <= LONGEST_NAME and has_only(value, SMALL_LETTERS)


def is_number(text):
    if not 1 <= len(text) <= LONGEST_NUMBER or not are_figures(text):
        return False
    return text == "0" or text[0] != "0"
