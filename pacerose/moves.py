"""Shares, made of how often which image is put to which step."""

from pacerose.shares import told_images
from pacerose.vectors import divisor, reduced


class Moves:
    """Numbers of images, each with the step that it helps to make and the step that it is an image of.

    Steps may have a common divisor: a trip has those without, so that many times.
    """

    def __init__(self):
        self.numbers = {}

    def put(self, step, image, source, number):
        if number > 0:
            key = (reduced(step), reduced(image), reduced(source))
            self.numbers[key] = self.numbers.get(key, 0) + number * divisor(source)

    def shares(self, kind, one, other):
        """The shares of one in other, once all is put."""
        pairs = [(image, other[j][0]) for image, j in told_images(kind, other)]
        return 1, tuple([tuple([self.numbers.get((step, *pair), 0) for pair in pairs]) for step, _ in one])
