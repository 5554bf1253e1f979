"""How the answers of a desk tell fractions, lists of them, and what is so or not."""


def poly_text(poly):
    """The told polynomial, by rising powers, with commas between."""
    return ",".join([str(number) for number in poly]) if poly else "-"


def fraction_text(fraction):
    """Top and bottom."""
    return f"{poly_text(fraction.upper())} {poly_text(fraction.lower())}"


def fractions_text(fractions):
    """All of them, with semicolons between."""
    return "; ".join([fraction_text(fraction) for fraction in fractions]) if fractions else "-"


def grid_text(grid):
    """The rows of the grid."""
    return " ".join([poly_text(row) for row in grid])


def words_text(worths):
    """Names or places with blanks between."""
    return " ".join([str(worth) for worth in worths]) if worths else "-"


def is_so_text(is_so):
    """Whether it is so."""
    return "yes" if is_so else "no"


def states_text(states, labels):
    """The labels with their states, of a dict, with commas between."""
    return ", ".join([f"{label} {states[label]}" for label in labels]) if labels else "-"
