"""What a works keeps: its lots, recipes and batches, what is gone of them, and which minute it is."""


class Lot:
    """So many kilograms of one material, bought at once."""

    def __init__(self, material, kilograms):
        self.material = material
        self.bought = kilograms
        self.left = kilograms


class Recipe:
    """Parts of each of eight materials, and how a mix of them may be used."""

    def __init__(self, rest, good, share, parts):
        self.rest = rest
        self.good = good
        self.share = share
        self.parts = parts


class Batch:
    """A mix: its recipe's number, what is left, its minute, the numbers of the lots in it, rising."""

    def __init__(self, recipe, kilograms, mixed, lots):
        self.recipe = recipe
        self.left = kilograms
        self.mixed = mixed
        self.lots = lots


class Works:
    """All there is since a begin; what has a number stands at that place of its list."""

    def __init__(self):
        self.minute = 0
        self.materials = 0
        self.lots = []
        self.recipes = []
        self.batches = []
        self.used = 0
        self.scrapped = 0


def no_material(works, number):
    return number >= works.materials


def no_lot(works, number):
    return number >= len(works.lots)


def no_recipe(works, number):
    return number >= len(works.recipes)


def no_batch(works, number):
    return number >= len(works.batches)
