package ledger

import (
	"slices"
	"strings"
	"testing"

	"catena/api"
	"catena/disk"
	"catena/note"
	"catena/point"
)

func legit(id int) api.Note { return api.Note{K: api.NLegit, N: id} }

// P29, P33: notes are written, made safe, and checkpoints take the place of a long log.
func TestKeep(t *testing.T) {
	d := disk.New()
	p, _ := point.New(d)
	l := Of(p)
	all := func() []api.Note { return []api.Note{legit(7), {}} }
	l.Write(legit(1))
	l.Write(api.Note{})
	p.Append("\xff")
	if d.Pending() == 0 {
		t.Error("safe too early")
	}
	l.Keep(all)
	if d.Pending() != 0 || !slices.EqualFunc(l.Notes(), []api.Note{legit(1)}, note.Same) {
		t.Error(l.Notes())
	}
	for p.Size() <= api.LogBytes {
		l.Keep(all)
		l.Write(legit(2))
	}
	if len(l.Notes()) < 100 {
		t.Error("too early", len(l.Notes()))
	}
	l.Keep(all)
	if !slices.EqualFunc(l.Notes(), []api.Note{legit(7)}, note.Same) || p.Size() > 100 {
		t.Error(l.Notes())
	}
	// A text's frame has seven bytes beside it, as long as the text is short.
	for p.Size() < api.LogBytes {
		p.Append(strings.Repeat("x", min(api.LogBytes-p.Size(), 20+api.LogBytes%2)-6))
		if left := api.LogBytes - p.Size(); left > 0 && left < 14 {
			p.Append(strings.Repeat("x", left-6))
		}
	}
	if size := p.Size(); size == api.LogBytes {
		if l.Keep(all); p.Size() != size {
			t.Error("just as long as it may be")
		}
	} else {
		t.Error(size)
	}
}
