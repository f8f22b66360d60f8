package story

import (
	"math/rand"
	"slices"
	"testing"

	"catena/api"
	"catena/cluster"
	"catena/item"
)

func e(letter byte, ts uint64, l ...api.Op) api.Entry {
	return api.Entry{Batch: api.Batch{Req: int(letter-'a') + 1, Ops: l}, Ts: ts}
}

func is(a, b []api.Entry) bool { return slices.EqualFunc(a, b, item.Same) }

// P37.1: what is added.
func TestAdd(t *testing.T) {
	x := api.Op{Key: "x"}
	log := []api.Entry{e('a', 3, x), e('b', 5), e('c', 0)}
	for i, c := range []struct {
		w, log []api.Entry
		stable int
		want   []api.Entry
		err    api.Errno
	}{
		{nil, log, 2, []api.Entry{e('a', 3), e('b', 5)}, api.OK}, {nil, log, 3, []api.Entry{e('a', 3), e('b', 5)}, api.OK}, {nil, log, 1 << 62, []api.Entry{e('a', 3), e('b', 5)}, api.OK}, {nil, log, -1 << 63, nil, api.OK}, {nil, nil, 5, nil, api.OK},
		{[]api.Entry{e('a', 3, x)}, log, 2, []api.Entry{e('a', 3, x), e('b', 5)}, api.OK}, {[]api.Entry{e('a', 4)}, log, 2, nil, api.ErrOrder}, {[]api.Entry{e('b', 3)}, log, 2, nil, api.ErrOrder}, {[]api.Entry{e('b', 3)}, log, 0, []api.Entry{e('b', 3)}, api.OK},
		{[]api.Entry{e('a', 3), e('b', 5), e('z', 9)}, log, 2, []api.Entry{e('a', 3), e('b', 5), e('z', 9)}, api.OK}, {[]api.Entry{e('a', 3), e('z', 5), e('z', 9)}, log, 1, []api.Entry{e('a', 3), e('z', 5), e('z', 9)}, api.OK}, {[]api.Entry{e('a', 3), e('z', 5)}, log, 2, nil, api.ErrOrder},
	} {
		got, err := Add(c.w, c.log, c.stable)
		if err != c.err || !is(got, c.want) {
			t.Errorf("%d: %v %d", i, got, err)
		}
	}
	w := []api.Entry{e('a', 3, x)}
	got, _ := Add(w, log, 2)
	got[0].Batch.Ops[0].Key = "z"
	if w[0].Batch.Ops[0].Key != "x" {
		t.Error("shared")
	}
}

// P37.1: who holds it.
func TestHolds(t *testing.T) {
	w := []api.Entry{e('a', 3), e('b', 5)}
	for i, c := range []struct {
		w, log []api.Entry
		err    api.Errno
	}{{w, w, api.OK}, {w, w[:1], api.ErrNone}, {w, []api.Entry{e('z', 9)}, api.ErrNone}, {w, []api.Entry{e('a', 3, api.Op{Key: "q"}), e('b', 5), e('c', 0)}, api.OK}, {w, []api.Entry{e('a', 3), e('b', 0)}, api.ErrOrder}, {w, []api.Entry{e('a', 3), e('c', 5)}, api.ErrOrder}, {nil, nil, api.OK}, {nil, w, api.OK}} {
		if err := Holds(c.w, c.log); err != c.err {
			t.Errorf("%d: %d", i, err)
		}
	}
}

// P37.2: what was asked for.
func TestFill(t *testing.T) {
	l := []api.Op{{Key: "b", Val: "1"}, {Key: "a"}, {Key: "b", Val: "2"}}
	d := []api.Deed{{Req: 1, Ask: api.Ask{K: api.AWrite, Ops: l}}, {Req: 2, Ask: api.Ask{K: api.ALatest, Ops: l}}, {Req: 3, Ask: api.Ask{K: api.AGet}}, {Client: 1, Req: 3, Ask: api.Ask{K: api.AWrite}}}
	for i, c := range []struct {
		w, want []api.Entry
		err     api.Errno
	}{
		{nil, nil, api.OK}, {[]api.Entry{e('a', 3, api.Op{Key: "z"}), e('b', 4)}, []api.Entry{e('a', 3, l[1], l[2]), e('b', 4)}, api.OK}, {[]api.Entry{e('b', 1)}, []api.Entry{e('b', 1)}, api.OK}, {[]api.Entry{e('c', 0)}, nil, api.ErrNone}, {[]api.Entry{e('d', 3)}, nil, api.ErrNone},
		{[]api.Entry{e('a', 3), e('a', 4)}, nil, api.ErrOrder}, {[]api.Entry{e('a', 3), e('b', 3)}, nil, api.ErrOrder}, {[]api.Entry{e('a', 3), e('b', 2)}, nil, api.ErrOrder}, {[]api.Entry{e('a', 0)}, nil, api.ErrOrder}, {[]api.Entry{e('a', 0), e('c', 1)}, nil, api.ErrOrder}, {[]api.Entry{e('a', 3), e('c', 2)}, nil, api.ErrNone},
	} {
		got, err := Fill(c.w, d)
		if err != c.err || !is(got, c.want) {
			t.Errorf("%d: %v %d", i, got, err)
		}
	}
}

// P37.3: a story, as it goes on, and those that nobody made.
func TestSee(t *testing.T) {
	c, _ := cluster.New(2, 7)
	s := New()
	if s.See(c) != api.OK || s.Len() != 0 || s.Last() != 0 || len(s.List()) != 0 || s.See(nil) != api.OK {
		t.Error("new")
	}
	c.Step(api.Event{K: api.EvAsk, Ask: api.Ask{K: api.AWrite, Ops: []api.Op{{Key: "a"}}}})
	for range 12 {
		for node := range api.MaxNodes {
			c.Step(api.Event{K: api.EvTick, Node: node})
		}
		for range c.Waiting() {
			c.Step(api.Event{K: api.EvDeliver})
			if s.See(c) != api.OK {
				t.Fatal("see")
			}
		}
	}
	if !is(s.List(), []api.Entry{e('a', 7)}) || s.Len() != 1 || s.Last() != 7 {
		t.Error(s.List())
	}
	s.list[0].Ts = 8
	if s.See(c) != api.ErrOrder || s.See(nil) != api.ErrOrder || s.Len() != 1 || s.Last() != 8 {
		t.Error("broken")
	}
	for _, s := range []*Story{nil, new(Story)} {
		if s.See(c) != api.ErrZero || len(s.List()) != 0 || s.Len() != 0 || s.Last() != 0 {
			t.Error("not zero")
		}
	}
}

// P37.4: a list only grows, and holds of each log that is as long.
func TestFollows(t *testing.T) {
	r := rand.New(rand.NewSource(34))
	for range 500 {
		var all []api.Entry
		for i := range r.Intn(9) {
			all = append(all, e(byte('a'+i), uint64(10*i+1+r.Intn(9)), api.Op{Key: "k"}))
		}
		var w []api.Entry
		for range 6 {
			log := all[:r.Intn(len(all)+1)]
			got, err := Add(w, log, r.Intn(10)-1)
			if err != api.OK || !is(got[:len(w)], w) {
				t.Fatal(w, log, got)
			}
			w = got
			if len(log) >= len(w) && Holds(w, log) != api.OK {
				t.Fatal("holds", w, log)
			}
		}
	}
}
