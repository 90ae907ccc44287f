"""Feedback and observers that give a plant the characteristic polynomial one asks for."""

from tickdesign.matrices import has_shape
from tickdesign.matrices import is_plant
from tickdesign.matrices import read_matrix
from tickdesign.matrices import turned
from tickdesign.matrices import whole_entries
from tickdesign.matrices import whole_matrix
from tickdesign.polynomials import trimmed
from tickdesign.refusals import NotFitting
from tickdesign.refusals import NotPossible
from tickdesign.whole import told_quotients
from tickdesign.whole import without_content


def place_answer(a, b, f):
    plant = read_matrix(a)
    feed = read_matrix(b)
    wish = read_matrix(f)
    size = len(plant)
    if not (is_plant(plant) and has_shape(feed, size, 1) and is_wish(wish, size)):
        raise NotFitting()
    return [1, size] + told_feedback(plant, turned(feed)[0], wish[0][:size + 1])


# A matrix turned about has the same characteristic polynomial: so l is k for a' and c', turned about.
def observe_answer(a, c, f):
    plant = read_matrix(a)
    shown = read_matrix(c)
    wish = read_matrix(f)
    size = len(plant)
    if not (is_plant(plant) and has_shape(shown, 1, size) and is_wish(wish, size)):
        raise NotFitting()
    return [size, 1] + told_feedback(turned(plant), shown[0], wish[0][:size + 1])


# Whether this is one polynomial of just this degree that leads with 1.
def is_wish(rows, degree):
    if len(rows) != 1:
        return False
    numbers = trimmed([over for over, under in rows[0]])
    return len(numbers) == degree + 1 and numbers[degree] == rows[0][degree][1]


# Ackermann's rule: k is w f(a) / (w a^(n - 1) b), where w is a row for which w a^i b is 0 for all lower i.
def told_feedback(plant, feed, wish):
    size = len(plant)
    found = whole_matrix(plant)
    matrix = found[0]
    scale = found[1]
    start = whole_entries(feed)
    goal = whole_entries(wish)
    row = across(reached_vectors(matrix, start[0], size - 1), size)
    images = row_images(without_content(row), matrix, size + 1)
    height = inner_product(images[size - 1], start[0])
    if height == 0:
        raise NotPossible()
    sums = scaled_sum(goal[0], images, scale)
    return told_quotients([start[1] * number for number in sums], goal[1] * scale * height)


def inner_product(first, second):
    return sum([one * other for one, other in zip(first, second)])


# b, a b, a a b, .. each up to a factor, which changes neither rank nor what is at right angles.
def reached_vectors(matrix, start, wanted):
    vectors = []
    vector = without_content(start)
    while len(vectors) < wanted:
        vectors.append(vector)
        vector = without_content([inner_product(line, vector) for line in matrix])
    return vectors


# w, w a, w a a, ..
def row_images(row, matrix, wanted):
    columns = turned(matrix)
    images = [row]
    while len(images) < wanted:
        images.append([inner_product(images[-1], column) for column in columns])
    return images


# The sum of numbers[i] images[i], each times scale as often as images lie behind it: so all are scaled alike.
def scaled_sum(numbers, images, scale):
    found = [0] * len(images[0])
    for number, image in zip(numbers, images):
        found = [scale * old + number * new for old, new in zip(found, image)]
    return found


# A row other than 0 whose inner product with each of the size - 1 vectors is 0.
def across(vectors, size):
    lines = vectors
    order = list(range(size))
    last = 1
    for step in range(size - 1):
        column = pivot_column(lines[step], step)
        lines = [swapped(line, step, column) for line in lines]
        order = swapped(order, step, column)
        lines = eliminated(lines, step, last)
        last = lines[step][step]
    row = [0] * size
    for column, number in zip(order, solved_upwards(lines, last)):
        row[column] = number
    return row


def pivot_column(line, step):
    for column in range(step, len(line)):
        if line[column] != 0:
            return column
    # A line of zeros: its vector is a sum of multiples of those before it, and nothing new is reached behind it.
    raise NotPossible()


def swapped(numbers, first, second):
    found = list(numbers)
    found[first] = numbers[second]
    found[second] = numbers[first]
    return found


# One step of Bareiss: all numbers are minors of the first lines, so dividing by the last pivot leaves no rest.
def eliminated(lines, step, last):
    line = lines[step]
    found = lines[:step + 1]
    for row in lines[step + 1:]:
        mixed = [line[step] * one - row[step] * other for one, other in zip(row, line)]
        found.append([number // last for number in mixed])
    return found


# From the lowest line up; the number that is free is the last pivot, so that by Cramer's rule all are whole.
def solved_upwards(lines, last):
    solved = [last]
    for step in range(len(lines) - 1, -1, -1):
        line = lines[step]
        solved = [-inner_product(line[step + 1:], solved) // line[step]] + solved
    return solved
