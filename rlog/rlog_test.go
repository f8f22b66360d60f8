package rlog

import (
	"math/rand"
	"slices"
	"testing"

	"catena/api"
	"catena/item"
	"catena/ops"
)

func entry(client, req int, ts uint64, l ...api.Op) api.Entry {
	return api.Entry{Batch: api.Batch{Client: client, Req: req, Ops: l}, Ts: ts}
}

func of(t *testing.T, l ...api.Entry) *Log {
	g := New()
	for i, e := range l {
		if err := g.Set(i, e); err != api.OK {
			t.Fatal(i, err)
		}
	}
	return g
}

func has(g *Log, l ...api.Entry) bool {
	return slices.EqualFunc(g.All(), l, item.Same) && g.Len() == len(l)
}

// P17.1: what can be set, and what becomes of those behind.
func TestSet(t *testing.T) {
	op := api.Op{Key: "a"}
	start := []api.Entry{entry(0, 1, 3), entry(0, 2, 5, op), entry(1, 1, 7), entry(1, 2, 0)}
	for i, x := range []struct {
		at   int
		e    api.Entry
		err  api.Errno
		want []api.Entry
	}{
		{-1, entry(9, 0, 0), api.ErrArg, start}, {5, entry(9, 0, 0), api.ErrArg, start}, {1 << 62, entry(2, 1, 0), api.ErrArg, start}, {0, entry(9, 0, 0), api.ErrArg, start}, {0, entry(0, 0, 0), api.ErrRange, start},
		{4, entry(0, 1, 0), api.ErrOrder, start}, {4, entry(2, 1, 9), api.ErrOrder, start}, {1, entry(2, 1, 3), api.ErrOrder, start}, {1, entry(0, 2, 2), api.ErrOrder, start},
		{4, entry(2, 1, 0), api.OK, append(slices.Clone(start), entry(2, 1, 0))},
		{1, entry(0, 2, 5), api.OK, start},
		{1, entry(0, 2, 6), api.OK, []api.Entry{start[0], entry(0, 2, 6, op), entry(1, 1, 0), entry(1, 2, 0)}},
		{1, entry(0, 2, 0), api.OK, []api.Entry{start[0], entry(0, 2, 0, op), entry(1, 1, 0), entry(1, 2, 0)}},
		{3, entry(1, 2, 8), api.OK, []api.Entry{start[0], start[1], start[2], entry(1, 2, 8)}},
		{1, entry(1, 2, 0), api.OK, []api.Entry{start[0], entry(1, 2, 0)}},
		{0, entry(2, 1, 1), api.OK, []api.Entry{entry(2, 1, 1)}},
	} {
		g := of(t, start...)
		if err := g.Set(x.at, x.e); err != x.err || !has(g, x.want...) || item.Right(g.All()) != api.OK {
			t.Errorf("%d: %d %v", i, err, g.All())
		}
		for k, e := range x.want {
			if g.Find(e.Batch.Client, e.Batch.Req) != k {
				t.Errorf("%d: Find of %v", i, e)
			}
		}
	}
	g := New()
	for i := range api.MaxLog {
		if g.Set(i, entry(0, i+1, 0)) != api.OK {
			t.Fatal(i)
		}
	}
	if g.Set(api.MaxLog, entry(0, 1, 0)) != api.ErrFull || g.Set(api.MaxLog, entry(0, 0, 0)) != api.ErrRange || g.Set(api.MaxLog-1, entry(1, 1, 0)) != api.OK {
		t.Error("full")
	}
}

// P17.1: what is handed in is not kept, what is answered is not the log's own.
func TestShared(t *testing.T) {
	l := []api.Op{{Key: "a"}}
	g := of(t, entry(0, 1, 3, l...))
	l[0].Key = "x"
	g.All()[0].Batch.Ops[0].Key = "y"
	e, _ := g.At(0)
	e.Batch.Ops[0].Key = "z"
	if !has(g, entry(0, 1, 3, api.Op{Key: "a"})) {
		t.Error(g.All())
	}
}

// P17.2: stamping, and what is told.
func TestStamp(t *testing.T) {
	g := of(t, entry(0, 1, 0), entry(1, 7, 0), entry(0, 3, 0))
	for i, x := range []struct {
		at  int
		ts  uint64
		err api.Errno
	}{{-1, 0, api.ErrArg}, {3, 0, api.ErrArg}, {0, 0, api.ErrRange}, {2, 0, api.ErrRange}, {1, 5, api.ErrOrder}, {0, 5, api.OK}, {0, 6, api.ErrOrder}, {1, 5, api.ErrOrder}, {1, api.MaxTs, api.OK}, {2, api.MaxTs, api.ErrOrder}} {
		if err := g.Stamp(x.at, x.ts); err != x.err {
			t.Errorf("%d: %d", i, err)
		}
	}
	if !has(g, entry(0, 1, 5), entry(1, 7, api.MaxTs), entry(0, 3, 0)) || g.Stamped() != 2 {
		t.Error(g.All())
	}
	if g.Find(1, 7) != 1 || g.Find(1, 6) != -1 || g.Find(9, 9) != -1 || g.Top(0) != 3 || g.Top(1) != 7 || g.Top(2) != 0 || g.Top(-1) != 0 {
		t.Error("find")
	}
	if e, ok := g.At(1); !ok || !item.Same(e, entry(1, 7, api.MaxTs)) {
		t.Error("at")
	}
	for _, i := range []int{-1, 3} {
		if e, ok := g.At(i); ok || !item.Same(e, api.Entry{}) {
			t.Error("at", i)
		}
	}
}

// P17.3: which operations go.
func TestThin(t *testing.T) {
	a, b, d := api.Op{Key: "a", Val: "1"}, api.Op{Key: "b", Val: "2"}, api.Op{Key: "a", Del: true}
	start := []api.Entry{entry(0, 1, 3, a, b), entry(0, 2, 5, a), entry(0, 3, 7, d), entry(0, 4, 0, a)}
	for i, x := range []struct {
		h    uint64
		n    int
		gone int
		want []api.Entry
	}{
		{api.MaxTs, 0, 0, start}, {api.MaxTs, -1, 0, start}, {api.MaxTs, -1 << 63, 0, start}, {4, 9, 0, start}, {6, 1, 0, start},
		{5, 9, 1, []api.Entry{entry(0, 1, 3, b), start[1], start[2], start[3]}},
		{api.MaxTs, 2, 1, []api.Entry{entry(0, 1, 3, b), start[1], start[2], start[3]}},
		{api.MaxTs, 1 << 62, 2, []api.Entry{entry(0, 1, 3, b), entry(0, 2, 5), start[2], start[3]}},
	} {
		g := of(t, start...)
		if n := g.Thin(x.h, x.n); n != x.gone || !has(g, x.want...) || g.Thin(x.h, x.n) != 0 {
			t.Errorf("%d: %d %v", i, n, g.All())
		}
	}
}

// P17.4: those that nobody made.
func TestZero(t *testing.T) {
	for _, g := range []*Log{nil, new(Log)} {
		if g.Set(0, entry(0, 1, 0)) != api.ErrZero || g.Stamp(0, 1) != api.ErrZero || g.Find(0, 1) != -1 || g.Top(0) != 0 || g.Thin(9, 9) != 0 || g.Len() != 0 || g.Stamped() != 0 || len(g.All()) != 0 {
			t.Error("not zero")
		}
		if e, ok := g.At(0); ok || !item.Same(e, api.Entry{}) {
			t.Error("at")
		}
	}
}

// P17.1, P17.5: always right; thinned, the same comes of it at h and later.
func TestFollows(t *testing.T) {
	r := rand.New(rand.NewSource(19))
	state := func(l []api.Entry, at uint64) (p []api.Pair) {
		for _, e := range l {
			if e.Ts <= at {
				p = ops.Over(p, e.Batch.Ops)
			}
		}
		return p
	}
	for range 400 {
		g := New()
		for range 40 {
			e := entry(r.Intn(2), 1+r.Intn(9), uint64(r.Intn(3)*r.Intn(30)))
			for k := range 3 {
				if o := (api.Op{Key: "abc"[k : k+1], Del: r.Intn(4) == 0}); r.Intn(2) == 0 {
					e.Batch.Ops = append(e.Batch.Ops, o)
				}
			}
			g.Set(r.Intn(g.Len()+1), e)
			g.Stamp(g.Stamped(), uint64(r.Intn(30)))
			if item.Right(g.All()) != api.OK {
				t.Fatal(g.All())
			}
		}
		h, n := uint64(r.Intn(30)), r.Intn(g.Len()+2)
		before := g.All()[:min(n, g.Stamped())]
		g.Thin(h, n)
		for at := h; at < 30; at++ {
			if !slices.Equal(state(before, at), state(g.All()[:len(before)], at)) {
				t.Fatal(h, n, at, before, g.All())
			}
		}
	}
}
