"""Groups, floors, tables of integers, and what they are reckoned with."""
