"""Rightrows: tables kept by others, with answers that can only be right."""
