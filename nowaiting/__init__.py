"""An object that many change without waiting."""
