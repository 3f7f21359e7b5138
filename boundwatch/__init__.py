"""Boundwatch: the stretch each name can lie in."""
