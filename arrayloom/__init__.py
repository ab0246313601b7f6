"""Arrayloom: arrays told cell by cell, woven by loops in one row of boxes."""
