// Package fresh copies what has lists in it, so that nothing is shared with what was handed in.
package fresh

import (
	"slices"

	"catena/api"
)

// Conf copies a configuration.
func Conf(c api.Conf) api.Conf {
	c.Members = slices.Clone(c.Members)
	return c
}

// Batch copies a batch.
func Batch(b api.Batch) api.Batch {
	b.Ops = slices.Clone(b.Ops)
	return b
}

// Entry copies an entry.
func Entry(e api.Entry) api.Entry {
	e.Batch = Batch(e.Batch)
	return e
}

// Entries copies a list of entries, each of them too.
func Entries(l []api.Entry) []api.Entry {
	c := make([]api.Entry, 0, len(l))
	for _, e := range l {
		c = append(c, Entry(e))
	}
	return c
}

// Ask copies what a client is asked to do.
func Ask(a api.Ask) api.Ask {
	a.Ops = slices.Clone(a.Ops)
	return a
}

// Reply copies what came of it.
func Reply(r api.Reply) api.Reply {
	r.Pairs = slices.Clone(r.Pairs)
	return r
}

// Deeds copies a list of deeds, each of them too.
func Deeds(l []api.Deed) []api.Deed {
	c := make([]api.Deed, 0, len(l))
	for _, d := range l {
		d.Ask, d.Reply = Ask(d.Ask), Reply(d.Reply)
		c = append(c, d)
	}
	return c
}
