"""Designs: modules of words, memories and parts."""


class Design:
    """Modules, triples of a title, the names of its widths, and its items; told by read_design."""

    def __init__(self, modules):
        self.modules = tuple(modules)
        self._places = {module[0]: at for at, module in enumerate(modules)}

    def titles(self):
        """The list of the names of the modules."""
        return [module[0] for module in self.modules]

    def module_of(self, title):
        """The module of a title that the design has."""
        return self.modules[self._places[title]]

    def __len__(self):
        return len(self.modules)

    def __contains__(self, name):
        return isinstance(name, str) and name in self._places

    def __eq__(self, other):
        return isinstance(other, Design) and self.modules == other.modules
