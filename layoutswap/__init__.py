"""Layoutswap: lossless migrations of tree records, compared and made from rules."""
