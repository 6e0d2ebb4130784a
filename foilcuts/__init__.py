"""Cut round faults: which sheets to stamp out of a coated foil."""
