"""Words counted, files parted: how an office that is paid by words counts them."""
