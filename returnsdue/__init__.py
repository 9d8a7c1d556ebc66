"""Returnsdue: a language with kept places, and bills that tell every return ahead."""
