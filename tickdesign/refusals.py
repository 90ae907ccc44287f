"""One error class for each refusal that a call may answer."""


# -6: a list that has to be a matrix, or a list of entries, isn't one.
class NoMatrix(Exception):
    pass


# -1: matrices or whole numbers are not such as the call takes.
class NotFitting(Exception):
    pass


# -4: what is asked for does not exist.
class NotPossible(Exception):
    pass
