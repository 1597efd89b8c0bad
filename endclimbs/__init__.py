"""Endclimbs: rules by which the ends of ranges are widened, decided for all rows and programs."""
