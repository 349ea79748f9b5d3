"""Pastlay: strokes of paint put into the past, so that what is wished is seen and all else stays as it is seen."""
