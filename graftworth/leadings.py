"""Leadings: an image for each operation, and with them for each sum."""
from graftworth.alike import is_lost, lost_form, plain_by
from graftworth.errors import BadNumber, NotLeading, TooLarge
from graftworth.grafting import top
from graftworth.linear import kernel
from graftworth.numbers import ONE, check_field
from graftworth.sums import Sum, numbers_along
from graftworth.trees import DOT, LETTERS, MOST_LETTERS, check_kinds, counted, listed

MOST_STEP = 2
MOST_TREES = 60


class Leading:
    """A leading from sums of some kinds to sums of other kinds. No method changes it."""

    def __init__(self, p, kinds, others, images):
        check_field(p)
        check_kinds(kinds)
        check_kinds(others)
        _check_images(p, kinds, others, images)
        self.p = p
        self.kinds = kinds
        self.others = others
        self._images = list(images)

    def images(self):
        """The list of the images of the operations."""
        return list(self._images)

    def step(self):
        """The size of the images."""
        return self._images[0].size

    def image(self, one):
        """The image of a sum."""
        if one.p != self.p or one.kinds != self.kinds:
            raise BadNumber("the sum has another field or other kinds than the leading")
        size = one.size * self.step()
        if size > MOST_LETTERS:
            raise TooLarge("the image would have too many letters")
        terms = []
        for tree, x in one.terms():
            terms.extend(self._image_of(tree).scaled(x).terms())
        return Sum(self.p, self.others, size, one.width, terms)

    def _image_of(self, tree):
        """The image of a tree."""
        if tree == DOT:
            return Sum(self.p, self.others, 0, 1, [(DOT, ONE)])
        letter, parts = top(self.kinds, tree)
        made = self._images[LETTERS.index(letter)]
        # From the last dot on, so that the numbers of the dots before it stay.
        for at, part in reversed(list(enumerate(parts))):
            made = made.grafted(at, self._image_of(part))
        return made

    def behind(self, first):
        """The leading that does what another one and then this one do."""
        if first.p != self.p or first.others != self.kinds:
            raise BadNumber("the leadings have different fields, or do not fit")
        if first.step() * self.step() > MOST_STEP:
            raise TooLarge("the step would be more than 2")
        return Leading(self.p, first.kinds, self.others, [self.image(one) for one in first.images()])

    def __eq__(self, other):
        return (
            isinstance(other, Leading) and self.p == other.p and self.kinds == other.kinds
            and self.others == other.others and self._images == other._images
        )


def _check_images(p, kinds, others, images):
    if len(images) != len(kinds):
        raise NotLeading("there is not one image for each operation")
    step = images[0].size
    if not 1 <= step <= MOST_STEP:
        raise NotLeading("the step is not 1 or 2")
    for image, held in zip(images, kinds):
        if image.p != p or image.kinds != others:
            raise NotLeading("an image has another field or other kinds")
        if image.size != step or image.width != held:
            raise NotLeading("an image has another size, or not as many open entrances as its operation")


def calm(p, kinds):
    """The leading that leads each operation to itself."""
    check_field(p)
    check_kinds(kinds)
    images = [Sum(p, kinds, 1, held, [(letter + DOT * held, ONE)]) for letter, held in zip(LETTERS, kinds)]
    return Leading(p, kinds, kinds, images)


def _check_other(leading, other):
    if other.p != leading.p or other.kinds != leading.others:
        raise BadNumber("the other book has another field or other kinds than the leading tells")


def first_wrong(leading, book, other):
    """The number of the first relation of a book whose image is not lost in the other one, or None."""
    if book.p != leading.p or book.kinds != leading.kinds:
        raise BadNumber("the book has another field or other kinds than the leading")
    _check_other(leading, other)
    for index, relation in enumerate(book.relations()):
        if not is_lost(other, leading.image(relation)):
            return index
    return None


def is_right(leading, book, other):
    """Whether the images of all relations of a book are lost in the other one."""
    return first_wrong(leading, book, other) is None


def gone(leading, other, size, width):
    """A basis of the sums of a size and width whose images are lost in the other book."""
    _check_other(leading, other)
    if counted(leading.kinds, size, width) > MOST_TREES:
        raise TooLarge("there are too many trees of this size and width")
    trees = listed(leading.kinds, size, width)
    if trees == []:
        return []
    alone = [Sum(leading.p, leading.kinds, size, width, [(tree, ONE)]) for tree in trees]
    columns = _plain_numbers(other, [leading.image(one) for one in alone])
    matrix = [[column[at] for column in columns] for at in range(len(columns[0]))]
    if matrix == []:
        return alone
    vectors = kernel(leading.p, matrix)
    return [Sum(leading.p, leading.kinds, size, width, list(zip(trees, vector))) for vector in vectors]


def _plain_numbers(book, ones):
    """For sums of one size and width, the lists of the numbers of all trees in their plain sums."""
    form = lost_form(book, ones[0].size, ones[0].width)
    return [numbers_along(plain_by(form, one), form[0]) for one in ones]
