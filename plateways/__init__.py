"""Plateways: what can come from pan to plate, in whatever order the work is done."""
