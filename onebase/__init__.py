"""Onebase, a linker and loader: each module is imported by its own name."""
