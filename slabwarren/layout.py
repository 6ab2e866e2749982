"""Pages and the numbers of the objects that are cut out of them."""


class Layout:
    """So many pages, and for each size the number of objects that a page has."""

    def __init__(self, pages, sizes):
        self.pages = pages
        self.sizes = list(sizes)
        self.most = max(self.sizes, default=0)

    def object_of(self, page, index):
        """Return the number of the object that stands at an index of a page."""
        return page * self.most + index

    def page_of(self, number):
        """Return the page of an object."""
        # Numbers below the least one that a list may have raise no error either.
        return number // max(1, self.most)

    def objects(self, page, size):
        """Return the objects of a page that is cut for a size, in ascending order."""
        return [self.object_of(page, index) for index in range(self.sizes[size])]
