package rstate

import (
	"math/rand"
	"slices"
	"testing"

	"catena/api"
	"catena/conf"
	"catena/item"
	"catena/mvcc"
	"catena/note"
	"catena/ops"
)

func entry(req int, ts uint64, l ...api.Op) api.Entry {
	return api.Entry{Batch: api.Batch{Client: 1, Req: req, Ops: l}, Ts: ts}
}

func confNote(epoch int, ids ...int) api.Note {
	c := api.Conf{Epoch: epoch}
	for _, id := range ids {
		c.Members = append(c.Members, api.Member{Id: id, Serial: 1})
	}
	return api.Note{K: api.NConf, Conf: c}
}

func put(i int, e api.Entry) api.Note        { return api.Note{K: api.NPut, N: i, Entry: e} }
func stamp(i int, at uint64) api.Note        { return api.Note{K: api.NStamp, N: i, At: at} }
func horizon(at uint64, stable int) api.Note { return api.Note{K: api.NHorizon, At: at, N: stable} }
func has(s *State, l ...api.Entry) bool      { return slices.EqualFunc(s.All(), l, item.Same) }
func same(a, b *State) bool {
	return conf.Same(a.Conf(), b.Conf()) && a.Horizon() == b.Horizon() && has(a, b.All()...)
}

func of(t *testing.T, l ...api.Note) *State {
	s := New()
	for i, n := range l {
		if e := s.Apply(n); e != api.OK {
			t.Fatal(i, e)
		}
	}
	return s
}

// P30.1: a new state, and what is told of the log.
func TestNew(t *testing.T) {
	s := New()
	if !conf.Same(s.Conf(), api.Conf{}) || s.Horizon() != 0 || len(s.All()) != 0 || s.Len() != 0 || s.Stamped() != 0 || s.Find(1, 1) != -1 || s.Top(1) != 0 {
		t.Error("new")
	}
	s = of(t, put(0, entry(4, 0)), put(1, entry(2, 0)), stamp(0, 5))
	if !has(s, entry(4, 5), entry(2, 0)) || s.Len() != 2 || s.Stamped() != 1 || s.Find(1, 2) != 1 || s.Find(2, 2) != -1 || s.Top(1) != 4 {
		t.Error(s.All())
	}
	s.All()[0].Ts = 9
	if s.All()[0].Ts != 5 {
		t.Error("shared")
	}
}

// P30.2: what is taken, and what is refused.
func TestApply(t *testing.T) {
	a, b := api.Op{Key: "a", Val: "1"}, api.Op{Key: "a", Val: "2"}
	base := []api.Note{confNote(5, 1, 0), put(0, entry(1, 3, a)), put(1, entry(2, 5, b)), put(2, entry(3, 0)), horizon(4, 1)}
	for i, x := range []struct {
		n api.Note
		e api.Errno
	}{
		{api.Note{}, api.ErrKind}, {confNote(0, 1), api.ErrRange}, {confNote(5, 1), api.ErrOrder}, {confNote(4, 1), api.ErrOrder}, {put(4, entry(9, 0)), api.ErrArg}, {put(3, entry(1, 0)), api.ErrOrder}, {put(3, entry(0, 0)), api.ErrRange}, {put(3, entry(9, 9)), api.ErrOrder},
		{stamp(3, 9), api.ErrArg}, {stamp(2, 0), api.ErrRange}, {stamp(2, 5), api.ErrOrder}, {stamp(1, 9), api.ErrOrder}, {horizon(3, 9), api.ErrOrder}, {horizon(5, -1), api.ErrRange},
		{api.Note{K: api.NLegit}, api.ErrKind}, {api.Note{K: api.NPin}, api.ErrKind}, {api.Note{K: api.NUnpin}, api.ErrKind}, {api.Note{K: api.NSaid}, api.ErrKind},
	} {
		s := of(t, base...)
		if e := s.Apply(x.n); e != x.e || !same(s, of(t, base...)) {
			t.Errorf("%d: %d", i, e)
		}
	}
	s := of(t, append(base, horizon(5, 1))...)
	if !has(s, entry(1, 3, a), entry(2, 5, b), entry(3, 0)) || s.Horizon() != 5 {
		t.Error("one is stable", s.All())
	}
	s.Apply(horizon(5, 2))
	if !has(s, entry(1, 3), entry(2, 5, b), entry(3, 0)) {
		t.Error("thinned", s.All())
	}
	n := confNote(6, 2)
	s.Apply(n)
	n.Conf.Members[0].Id = 3
	if conf.Head(s.Conf()) != 2 || s.Conf().Epoch != 6 {
		t.Error("shared")
	}
}

// P30.3: the notes of a state.
func TestNotes(t *testing.T) {
	if got := New().Notes(); !slices.EqualFunc(got, []api.Note{horizon(0, 0)}, note.Same) {
		t.Error(got)
	}
	n := confNote(5, 1, 0)
	n.Legit = []int{1}
	s := of(t, n, put(0, entry(1, 3)), put(1, entry(2, 0)), horizon(4, 1))
	if got := s.Notes(); !slices.EqualFunc(got, []api.Note{confNote(5, 1, 0), put(0, entry(1, 3)), put(1, entry(2, 0)), horizon(4, 0)}, note.Same) {
		t.Error(got)
	}
}

// P30.4: feeding a store.
func TestFeed(t *testing.T) {
	s := of(t, put(0, entry(1, 3, api.Op{Key: "a", Val: "1"})), put(1, entry(2, 5, api.Op{Key: "b", Val: "2"})), put(2, entry(3, 7, api.Op{Key: "c", Val: "3"})), put(3, entry(4, 0)))
	for i, x := range []struct{ from, to, come, cells int }{{0, 0, 0, 0}, {-5, -3, 0, 0}, {0, 1, 1, 1}, {0, 2, 2, 2}, {1, 99, 3, 2}, {3, 1, 3, 0}, {9, 99, 9, 0}, {-1 << 63, 1<<63 - 1, 3, 3}} {
		m := mvcc.New()
		if got := s.Feed(m, x.from, x.to); got != x.come || m.Cells() != x.cells {
			t.Errorf("%d: %d %d", i, got, m.Cells())
		}
	}
	m := mvcc.New()
	m.Put(4, nil)
	if s.Feed(m, 0, 3) != 3 || m.Cells() != 2 || m.Last() != 7 || s.Feed(nil, 0, 3) != 3 {
		t.Error("what is refused")
	}
}

// P30.5: those that nobody made.
func TestZero(t *testing.T) {
	for _, s := range []*State{nil, new(State)} {
		if s.Apply(horizon(1, 1)) != api.ErrZero || s.Apply(api.Note{}) != api.ErrZero || len(s.Notes()) != 0 || !conf.Same(s.Conf(), api.Conf{}) || s.Horizon() != 0 || len(s.All()) != 0 || s.Len() != 0 || s.Stamped() != 0 || s.Find(0, 0) != -1 || s.Top(0) != 0 || s.Feed(mvcc.New(), 3, 5) != 0 {
			t.Error("not zero")
		}
	}
}

// P30.6: always right, nothing goes back, and what is fed at the horizon and later is what the entries come to.
func TestFollows(t *testing.T) {
	r := rand.New(rand.NewSource(29))
	for range 200 {
		s := New()
		var all []api.Entry
		for range 30 {
			var l []api.Op
			for k := range 3 {
				if o := (api.Op{Key: "abc"[k : k+1], Val: "0123456789"[r.Intn(10):][:1]}); r.Intn(2) == 0 {
					l = append(l, o)
				}
			}
			h, epoch := s.Horizon(), s.Conf().Epoch
			switch r.Intn(4) {
			case 0:
				s.Apply(confNote(r.Intn(40), 1))
			case 1:
				e := entry(s.Len()+1, 0, l...)
				if s.Apply(put(s.Len(), e)) == api.OK {
					all = append(all, e)
				}
			case 2:
				at := uint64(r.Intn(60))
				if i := s.Stamped(); s.Apply(stamp(i, at)) == api.OK {
					all[i].Ts = at
				}
			default:
				s.Apply(horizon(uint64(r.Intn(60)), r.Intn(s.Stamped()+1)))
			}
			if s.Horizon() < h || s.Conf().Epoch < epoch || item.Right(s.All()) != api.OK || !same(s, of(t, s.Notes()...)) {
				t.Fatal("goes back")
			}
			m := mvcc.New()
			s.Feed(m, 0, s.Len())
			for at := s.Horizon(); at < 60; at++ {
				var want []api.Pair
				for _, e := range all[:s.Stamped()] {
					if e.Ts <= at {
						want = ops.Over(want, e.Batch.Ops)
					}
				}
				if got, _ := m.Scan("", "", at, 99); !slices.Equal(got, want) {
					t.Fatal(at, got, want)
				}
			}
		}
	}
}
