"""Weandthey: programs over whole numbers in which we choose and others choose."""
