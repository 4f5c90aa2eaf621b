"""Clusters and jets in a calorimeter, computed with whole numbers only."""
