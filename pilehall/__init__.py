"""Pilehall: leaning piles that are joined, and groups that are joined and parted again."""
