"""Quiltyard: pictures that little tiles let by."""
