"""Threefeet: paths and closed walks of graphs drawn in the plane, with papers."""
