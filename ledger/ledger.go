// Package ledger writes notes down in a point, as texts.
package ledger

import (
	"catena/api"
	"catena/note"
	"catena/point"
)

// Ledger has the point that notes are written to.
type Ledger struct {
	log *point.Point
}

// Of answers the ledger of a point.
func Of(log *point.Point) Ledger {
	return Ledger{log: log}
}

// Notes answers those notes that can be read.
func (l Ledger) Notes() []api.Note {
	var notes []api.Note
	for _, s := range l.log.Texts() {
		if n, e := note.Of(s); e == api.OK {
			notes = append(notes, n)
		}
	}
	return notes
}

// Write appends a note's bytes; they are not safe yet.
func (l Ledger) Write(n api.Note) {
	if s, e := note.Put(n); e == api.OK {
		l.log.Append(s)
	}
}

// Keep makes all safe; and if the log is long, a checkpoint of all that is to be known takes its place.
func (l Ledger) Keep(all func() []api.Note) {
	l.log.Sync()
	if l.log.Size() <= api.LogBytes {
		return
	}
	var texts []string
	for _, n := range all() {
		if s, e := note.Put(n); e == api.OK {
			texts = append(texts, s)
		}
	}
	l.log.Save(texts)
}
