"""Echohall: machines whose pile goes by the letters alone."""
