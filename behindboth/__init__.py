"""Behindboth: sources merged by outer joins so that nothing that fits is lost."""
