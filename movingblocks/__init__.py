"""Blocks of a moving picture: found, predicted, mended."""
