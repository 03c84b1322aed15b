"""Questions put to tables; the calls stand in askedtables.questions."""
