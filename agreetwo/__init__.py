"""Agreetwo: tables that overlap, and one condition for all that they promise."""
