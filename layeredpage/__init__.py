"""An editor's document: a ground, layers over it, what is chosen, and the steps that can be undone."""
