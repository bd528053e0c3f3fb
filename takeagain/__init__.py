"""Takeagain: a heap from which each takes no more than so many times what was taken last."""
