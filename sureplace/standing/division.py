"""How the root of a question is divided into cells."""


SIGNS = ("0", "1")


def is_address(text):
    """Tell whether each sign of the text is 0 or 1."""
    return all([sign in SIGNS for sign in text])


class Cell:
    """What is shown of a cell: it is "open", or "out" by trees and steps of blame, or "in" by a witness.

    The box of an open cell is not kept, as nothing is judged for it.
    """

    def __init__(self, verdict, box=None, *, trees=(), steps=(), witness=None):
        self.verdict = verdict
        self.box = box
        self.trees = trees
        self.steps = steps
        self.witness = witness


class Division:
    """The cells that are not cut, by their addresses. Together they are the root."""

    def __init__(self, uncut):
        self.uncut = {address: cell for address, cell in uncut}

    def around(self, address):
        """The address of the cell, not cut, that is or contains the one at the address; None if this is cut."""
        for length in range(len(address) + 1):
            if address[:length] in self.uncut:
                return address[:length]
        return None

    def settle(self, address, cell):
        """Put the cell at the address, instead of its parts, or as a part of the cell around it."""
        around = self.around(address)
        if around is None:
            for part in list(self.uncut):
                if part.startswith(address):
                    del self.uncut[part]
        else:
            del self.uncut[around]
            # Each half beside the way from the cell around to the address is open.
            for length in range(len(around), len(address)):
                beside = "1" if address[length] == "0" else "0"
                self.uncut[address[:length] + beside] = Cell("open")
        self.uncut[address] = cell
