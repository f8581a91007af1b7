"""Three floors, each in the next one."""
