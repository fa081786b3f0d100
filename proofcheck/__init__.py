"""A no that is believed: a small checker of proofs about plans, and a house that brings its own."""
