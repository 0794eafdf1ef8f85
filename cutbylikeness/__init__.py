"""Chosen by likeness: see cutbylikeness.page.answers."""
