"""Views over tables that are edited through."""
