"""Catalogues of a brick builder's parts: the calls stand in studtube.parts."""
