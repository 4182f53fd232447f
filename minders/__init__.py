"""Minders: children begun in order, begun again when they fall, put away from the last."""
