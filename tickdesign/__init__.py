"""Exact design of controllers that run by ticks; the way in is tickdesign.desk."""
