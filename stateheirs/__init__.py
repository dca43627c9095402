"""Parted, joined, followed: states, their treaties and what they owe."""
