"""Ships judged for all cargoes, holes and orders of flooding. Import from the modules of this folder."""
