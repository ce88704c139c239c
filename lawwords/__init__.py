"""Words defined: which definition of a law's word counts where and when."""
