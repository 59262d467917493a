"""Hearsayways: hosts that know how far a place is by what their neighbours told them last."""
