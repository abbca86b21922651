"""Ties that only pull: whether a wall of tied squares stands firm, and how it may lean else."""
