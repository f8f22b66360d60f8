package mstate

import (
	"math/rand"
	"slices"
	"testing"

	"catena/api"
	"catena/conf"
	"catena/lease"
	"catena/note"
)

func chain(epoch int, ids ...int) api.Conf {
	c := api.Conf{Epoch: epoch, Floor: 3}
	for _, id := range ids {
		c.Members = append(c.Members, api.Member{Id: id, Serial: 1})
	}
	return c
}

func confNote(c api.Conf, legit ...int) api.Note {
	return api.Note{K: api.NConf, Conf: c, Legit: legit}
}
func pin(id int, at uint64) api.Note {
	return api.Note{K: api.NPin, Pin: api.Pin{Id: id, At: at, Left: 3}}
}
func unpin(id int) api.Note         { return api.Note{K: api.NUnpin, N: id} }
func legit(id int) api.Note         { return api.Note{K: api.NLegit, N: id} }
func horizon(at uint64) api.Note    { return api.Note{K: api.NHorizon, At: at, N: 7} }
func said(client, req int) api.Note { return api.Note{K: api.NSaid, Said: answer(client, req)} }
func answer(client, req int) api.Answer {
	return api.Answer{Client: client, Req: req, E: 7, Pin: 2}
}

func of(t *testing.T, l ...api.Note) *State {
	s := New()
	for i, n := range l {
		if e := s.Apply(n); e != api.OK {
			t.Fatal(i, e)
		}
	}
	return s
}

func same(a, b *State) bool {
	for c := range api.MaxClients {
		if a.Said(c) != b.Said(c) {
			return false
		}
	}
	return conf.Same(a.Conf(), b.Conf()) && slices.Equal(a.Legit(), b.Legit()) && a.Horizon() == b.Horizon() && slices.Equal(a.Pins(), b.Pins()) && a.Top() == b.Top()
}

// P28.1: a new state.
func TestNew(t *testing.T) {
	s := New()
	if !conf.Same(s.Conf(), api.Conf{}) || len(s.Legit()) != 0 || s.Horizon() != 0 || len(s.Pins()) != 0 || s.Top() != 0 || s.Said(0) != (api.Answer{}) || s.Said(-1) != (api.Answer{}) || s.Said(3) != (api.Answer{}) {
		t.Error("new")
	}
}

// P28.2: what is taken, and what is refused.
func TestApply(t *testing.T) {
	base := []api.Note{confNote(chain(5, 2, 0, 1), 1, 2), horizon(10), pin(4, 12), pin(6, 11), said(1, 8)}
	for i, x := range []struct {
		n api.Note
		e api.Errno
	}{
		{api.Note{}, api.ErrKind}, {confNote(chain(0, 2), 2), api.ErrRange}, {confNote(chain(6, 2), 2, 1), api.ErrOrder}, {said(3, 1), api.ErrArg}, {api.Note{K: api.NPut, Entry: api.Entry{Batch: api.Batch{Req: 1}}}, api.ErrKind}, {api.Note{K: api.NStamp, At: 1}, api.ErrKind},
		{api.Note{K: api.NPut}, api.ErrRange},
		{confNote(chain(5, 2), 3), api.ErrOrder}, {confNote(chain(4, 2), 2), api.ErrOrder}, {confNote(chain(6, 2, 0), 0, 3), api.ErrNone}, {confNote(chain(6, 2, 0), 0), api.ErrOrder}, {confNote(chain(6, 2, 0)), api.ErrOrder},
		{legit(3), api.ErrNone}, {legit(9), api.ErrNone}, {horizon(9), api.ErrOrder},
		{pin(0, 50), api.ErrOrder}, {pin(6, 0), api.OK}, {pin(5, 50), api.ErrOrder}, {pin(7, 9), api.ErrPruned}, {pin(5, 9), api.ErrOrder}, {said(1, 7), api.ErrOrder},
	} {
		s := of(t, base...)
		if e := s.Apply(x.n); e != x.e || !same(s, of(t, base...)) {
			t.Errorf("%d: %d", i, e)
		}
	}
	s := of(t, append(base, pin(9, 10))...)
	if s.Apply(pin(10, 5)) != api.ErrPins || s.Apply(pin(3, 50)) != api.ErrPins || s.Top() != 9 {
		t.Error("pins")
	}
	if !slices.Equal(s.Pins(), []api.Pin{{Id: 4, At: 12, Left: api.Lease}, {Id: 6, At: 11, Left: api.Lease}, {Id: 9, At: 10, Left: api.Lease}}) {
		t.Error(s.Pins())
	}
	for i, n := range []api.Note{unpin(6), unpin(6), unpin(20), unpin(3), legit(0), legit(2), legit(0), horizon(10), horizon(15), said(1, 8), said(1, 9), said(0, 0)} {
		if e := s.Apply(n); e != api.OK {
			t.Error(i, e)
		}
	}
	if s.Top() != 20 || len(s.Pins()) != 2 || !slices.Equal(s.Legit(), []int{0, 1, 2}) || s.Horizon() != 15 || s.Said(1) != answer(1, 9) || s.Said(2) != (api.Answer{}) {
		t.Error(s.Top(), s.Pins(), s.Legit())
	}
	if s.Apply(pin(20, 50)) != api.ErrOrder || s.Said(0) != (api.Answer{E: 7, Pin: 2}) {
		t.Error("the Id of a pin that is gone", s.Said(0))
	}
	n := confNote(chain(6, 0, 3), 0)
	if s.Apply(n) != api.OK || !conf.Same(s.Conf(), chain(6, 0, 3)) || !slices.Equal(s.Legit(), []int{0}) {
		t.Error("configuration")
	}
	n.Conf.Members[0].Id = 1
	s.Conf().Members[0].Id = 2
	s.Legit()[0] = 3
	s.Pins()[0].At = 0
	if conf.Head(s.Conf()) != 0 || s.Legit()[0] != 0 || s.Pins()[0].At != 12 {
		t.Error("shared")
	}
}

// P28.3: the notes of a state.
func TestNotes(t *testing.T) {
	if got := New().Notes(); !slices.EqualFunc(got, []api.Note{unpin(0), {K: api.NHorizon}}, note.Same) {
		t.Error(got)
	}
	s := of(t, confNote(chain(5, 2, 0, 1), 1, 2), horizon(10), pin(4, 12), pin(6, 11), said(1, 8), said(2, 0), horizon(12))
	want := []api.Note{confNote(chain(5, 2, 0, 1), 1, 2), {K: api.NPin, Pin: api.Pin{Id: 4, At: 12, Left: 8}}, {K: api.NPin, Pin: api.Pin{Id: 6, At: 11, Left: 8}}, {K: api.NHorizon, At: 12}, said(1, 8), said(2, 0)}
	if got := s.Notes(); !slices.EqualFunc(got, want, note.Same) {
		t.Error(got)
	}
	s.Apply(unpin(6))
	if got := s.Notes(); len(got) != 6 || !note.Same(got[2], unpin(6)) {
		t.Error(got)
	}
}

// P28.4: those that nobody made.
func TestZero(t *testing.T) {
	for _, s := range []*State{nil, new(State)} {
		if s.Apply(horizon(1)) != api.ErrZero || s.Apply(api.Note{}) != api.ErrZero || len(s.Notes()) != 0 || !conf.Same(s.Conf(), api.Conf{}) || len(s.Legit()) != 0 || s.Horizon() != 0 || len(s.Pins()) != 0 || s.Top() != 0 || s.Said(0) != (api.Answer{}) {
			t.Error("not zero")
		}
	}
}

// P28.3, P28.5: applied anew the notes make the same; nothing goes back; the head is trusted.
func TestFollows(t *testing.T) {
	r := rand.New(rand.NewSource(27))
	for range 300 {
		s := New()
		for range 60 {
			before := of(t, s.Notes()...)
			n := []api.Note{confNote(chain(1+r.Intn(30), r.Perm(4)[:1+r.Intn(3)]...), r.Intn(2), 2+r.Intn(2)), legit(r.Intn(4)), horizon(uint64(r.Intn(30))), pin(r.Intn(12), uint64(r.Intn(30))), unpin(r.Intn(9)), said(r.Intn(3), r.Intn(9))}[r.Intn(6)]
			e := s.Apply(n)
			if e != api.OK && !same(before, s) {
				t.Fatal("changed", n, e)
			}
			if s.Horizon() < before.Horizon() || s.Conf().Epoch < before.Conf().Epoch || s.Top() < before.Top() || !lease.Right(s.Pins()) {
				t.Fatal("goes back", n)
			}
			if s.Conf().Epoch > 0 && !slices.Contains(s.Legit(), conf.Head(s.Conf())) {
				t.Fatal("the head", s.Conf(), s.Legit())
			}
			if len(s.Pins()) > len(before.Pins()) && n.Pin.At < s.Horizon() {
				t.Fatal("a pin below the horizon", n)
			}
			if !same(s, of(t, s.Notes()...)) {
				t.Fatal("notes")
			}
		}
	}
}
