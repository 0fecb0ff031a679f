"""An editor that keeps every state a text ever had, on a disk that may lose power."""
