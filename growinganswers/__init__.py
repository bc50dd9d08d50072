"""Answers that only grow: which answers are given of each set of inputs, and whether one may have to be taken back."""
