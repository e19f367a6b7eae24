"""Texts made short: LZ4 blocks, and frames around them."""
