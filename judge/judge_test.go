package judge

import (
	"math/rand"
	"slices"
	"testing"

	"catena/api"
	"catena/cluster"
	"catena/ops"
)

func e(req int, ts uint64, l ...api.Op) api.Entry {
	return api.Entry{Batch: api.Batch{Req: req, Ops: l}, Ts: ts}
}

func p(key, val string) api.Pair { return api.Pair{Key: key, Val: val} }
func o(key, val string) api.Op   { return api.Op{Key: key, Val: val} }

var w = []api.Entry{e(1, 3, o("a", "1"), o("c", "1")), e(2, 7, o("a", "2"), o("b", "2")), e(3, 9, api.Op{Key: "a", Del: true})}

// P38.1: the state, and rows of it.
func TestState(t *testing.T) {
	for at, want := range map[uint64][]api.Pair{0: nil, 2: nil, 5: {p("a", "1"), p("c", "1")}, 7: {p("a", "2"), p("b", "2"), p("c", "1")}, api.MaxTs: {p("b", "2"), p("c", "1")}} {
		if got := State(w, at); !slices.Equal(got, want) {
			t.Error(at, got)
		}
	}
	for i, x := range []struct {
		a    api.Ask
		want []api.Pair
	}{
		{api.Ask{K: api.AGet, Key: "a"}, []api.Pair{p("a", "2")}}, {api.Ask{K: api.ALatest, Key: "b", Node: 9}, []api.Pair{p("b", "2")}}, {api.Ask{K: api.AGet, Key: "z"}, nil}, {api.Ask{K: api.AWrite, Key: "a"}, nil}, {api.Ask{K: api.APin, Key: "a"}, nil}, {api.Ask{K: -1, Key: "a"}, nil},
		{api.Ask{K: api.AScan, N: 9}, []api.Pair{p("a", "2"), p("b", "2"), p("c", "1")}}, {api.Ask{K: api.AScan, N: 2}, []api.Pair{p("a", "2"), p("b", "2")}}, {api.Ask{K: api.AScan, Key: "b", To: "c", N: 2}, []api.Pair{p("b", "2")}}, {api.Ask{K: api.AScan}, nil}, {api.Ask{K: api.AScan, N: -1 << 63}, nil},
	} {
		if got := Rows(w, x.a, 7); !slices.Equal(got, x.want) {
			t.Error(i, got)
		}
	}
}

func deed(a api.Ask, end int, r api.Reply) api.Deed {
	return api.Deed{Req: 1, Ask: a, Begin: 1, End: end, Reply: r}
}

// P38.2: what is read.
func TestReads(t *testing.T) {
	get := api.Ask{K: api.AGet, Key: "a", At: 99}
	good := []api.Deed{deed(get, 0, api.Reply{E: 7, Pairs: []api.Pair{p("x", "x")}}), deed(get, 2, api.Reply{At: 7, Pairs: []api.Pair{p("a", "2")}}), deed(get, 2, api.Reply{At: 9}), deed(get, 2, api.Reply{E: api.ErrTooNew}), deed(api.Ask{}, 2, api.Reply{At: 7, Pairs: []api.Pair{p("q", "q")}}), deed(api.Ask{K: api.ALatest, Key: "b"}, 2, api.Reply{At: 8, Pairs: []api.Pair{p("b", "2")}}), deed(api.Ask{K: api.AScan, N: 1}, 3, api.Reply{At: 3, Pairs: []api.Pair{p("a", "1")}})}
	if at, err := Reads(w, good); at != -1 || err != api.OK {
		t.Error(at, err)
	}
	for i, x := range []struct {
		d   api.Deed
		err api.Errno
	}{{deed(get, 2, api.Reply{E: 7, Pairs: []api.Pair{p("a", "2")}}), api.ErrForm}, {deed(api.Ask{}, 2, api.Reply{E: 7, Pairs: []api.Pair{p("a", "2")}}), api.ErrForm}, {deed(get, 2, api.Reply{At: 7}), api.ErrOrder}, {deed(get, 2, api.Reply{At: 9, Pairs: []api.Pair{p("a", "2")}}), api.ErrOrder}, {deed(api.Ask{K: api.ALatest, Key: "b"}, 2, api.Reply{At: 8}), api.ErrOrder}, {deed(api.Ask{K: api.AScan, N: 2}, 3, api.Reply{At: 3, Pairs: []api.Pair{p("a", "1")}}), api.ErrOrder}} {
		if at, err := Reads(w, append(slices.Clone(good), x.d, x.d)); at != len(good) || err != x.err {
			t.Error(i, at, err)
		}
	}
}

// P38.2: what is written.
func TestWrites(t *testing.T) {
	d := func(k, client, req, end int, r api.Reply) api.Deed {
		return api.Deed{Client: client, Req: req, Ask: api.Ask{K: k}, End: end, Reply: r}
	}
	good := []api.Deed{d(0, 0, 9, 0, api.Reply{}), d(0, 0, 1, 5, api.Reply{At: 3}), d(3, 0, 2, 5, api.Reply{At: 7}), d(1, 0, 9, 5, api.Reply{At: 7}), d(0, 1, 1, 5, api.Reply{E: api.ErrEnd}), d(0, 0, 3, 5, api.Reply{E: api.ErrLate})}
	if at, err := Writes(w, good); at != -1 || err != api.OK {
		t.Error(at, err)
	}
	for i, x := range []struct {
		d   api.Deed
		err api.Errno
	}{{d(0, 1, 1, 5, api.Reply{At: 3}), api.ErrNone}, {d(0, 0, 1, 5, api.Reply{At: 4}), api.ErrNone}, {d(3, 0, 2, 5, api.Reply{}), api.ErrNone}, {d(0, 0, 3, 5, api.Reply{E: api.ErrEnd}), api.ErrEnd}, {d(0, 0, 1, 1, api.Reply{E: api.ErrEnd}), api.ErrEnd}} {
		if at, err := Writes(w, append(slices.Clone(good), x.d, x.d)); at != len(good) || err != x.err {
			t.Error(i, at, err)
		}
	}
}

// P38.3: what came behind has the later timestamp.
func TestTimes(t *testing.T) {
	d := func(k, begin, end int, at uint64, err api.Errno) api.Deed {
		return api.Deed{Ask: api.Ask{K: k}, Begin: begin, End: end, Reply: api.Reply{At: at, E: err}}
	}
	for i, x := range []struct {
		d    []api.Deed
		at   int
		want api.Errno
	}{
		{nil, -1, api.OK}, {[]api.Deed{d(0, 1, 2, 5, 0), d(0, 3, 4, 6, 0), d(3, 5, 6, 7, 0)}, -1, api.OK}, {[]api.Deed{d(0, 1, 3, 5, 0), d(0, 3, 4, 4, 0)}, -1, api.OK},
		{[]api.Deed{d(0, 1, 2, 5, 0), d(0, 3, 4, 5, 0)}, 1, api.ErrOrder}, {[]api.Deed{d(3, 1, 2, 5, 0), d(0, 3, 4, 6, 0), d(3, 5, 6, 2, 0)}, 2, api.ErrOrder}, {[]api.Deed{d(0, 3, 4, 5, 0), d(0, 1, 2, 5, 0)}, 0, api.ErrOrder}, {[]api.Deed{d(0, 0, 1, 5, 0), d(0, 2, 4, 5, 0)}, 1, api.ErrOrder},
		{[]api.Deed{d(0, 1, 2, 5, 7), d(0, 3, 4, 5, 0)}, -1, api.OK}, {[]api.Deed{d(0, 1, 2, 5, 0), d(0, 3, 4, 5, 7)}, -1, api.OK}, {[]api.Deed{d(1, 1, 2, 5, 0), d(0, 3, 4, 5, 0)}, -1, api.OK}, {[]api.Deed{d(0, 1, 2, 5, 0), d(1, 3, 4, 5, 0)}, -1, api.OK}, {[]api.Deed{d(0, 1, 0, 5, 0), d(0, 3, 4, 5, 0)}, -1, api.OK}, {[]api.Deed{d(0, 1, 2, 5, 0), d(0, 3, 0, 5, 0)}, -1, api.OK},
	} {
		if at, err := Times(x.d); at != x.at || err != x.want {
			t.Error(i, at, err)
		}
	}
}

// P38.4: of a cluster.
func TestCluster(t *testing.T) {
	c, _ := cluster.New(2, 3)
	c.Step(api.Event{K: api.EvAsk, Ask: api.Ask{K: api.AWrite, Ops: []api.Op{{Key: "a"}}}})
	rounds := func(n int) {
		for range n {
			for node := range api.MaxNodes {
				c.Step(api.Event{K: api.EvTick, Node: node})
			}
			for range c.Waiting() {
				c.Step(api.Event{K: api.EvDeliver})
			}
		}
	}
	rounds(12)
	for i, x := range []struct {
		w   []api.Entry
		at  int
		err api.Errno
	}{{nil, -1, api.OK}, {[]api.Entry{e(1, 3)}, -1, api.OK}, {[]api.Entry{e(1, 4)}, 0, api.ErrOrder}, {[]api.Entry{e(1, 3), e(2, 4)}, 0, api.ErrNone}} {
		if at, err := Trusted(c, x.w); at != x.at || err != x.err {
			t.Error(i, at, err)
		}
	}
	c.Step(api.Event{K: api.EvCrash, Node: 0})
	if at, err := Trusted(c, []api.Entry{e(1, 4)}); at != 1 || err != api.ErrOrder {
		t.Error("the head is down", at, err)
	}
	c.Step(api.Event{K: api.EvErase, Node: 0})
	c.Step(api.Event{K: api.EvStart, Node: 0})
	if at, err := Trusted(c, []api.Entry{e(1, 3)}); at != -1 || err != api.OK {
		t.Error("another disk", at, err)
	}
	c.Step(api.Event{K: api.EvAsk, Node: 1, Ask: api.Ask{K: api.APin, At: 1}})
	rounds(2)
	if at, err := Pinned(c); at != -1 || err != api.OK || len(c.Pins()) != 1 {
		t.Error("pinned", at, err, c.Pins())
	}
	for i, x := range []struct {
		first uint64
		h     []uint64
		id    int
		err   api.Errno
	}{{5, []uint64{0, 5}, -1, api.OK}, {4, []uint64{0, 5}, 7, api.ErrPruned}, {8, []uint64{0, 8}, 9, api.ErrPruned}, {0, []uint64{8, 0}, 7, api.ErrPruned}, {0, nil, -1, api.OK}} {
		if id, err := above([]api.Pin{{Id: 7, At: x.first}, {Id: 9, At: 7}}, x.h); id != x.id || err != x.err {
			t.Error(i, id, err)
		}
	}
	c.Step(api.Event{K: api.EvCrash, Node: api.Master})
	if at, err := Trusted(c, []api.Entry{e(9, 9)}); at != -1 || err != api.OK {
		t.Error("the master is down")
	}
	for _, c := range []*cluster.Cluster{nil, c} {
		if at, err := Pinned(c); at != -1 || err != api.OK {
			t.Error("pinned")
		}
	}
}

// P38.5: which configuration may come behind.
func TestFollowsConf(t *testing.T) {
	chain := func(epoch int, floor uint64, l ...api.Member) api.Conf {
		return api.Conf{Epoch: epoch, Floor: floor, Members: l}
	}
	m := func(id, serial int) api.Member { return api.Member{Id: id, Serial: serial} }
	a := chain(4, 5, m(0, 1), m(1, 2))
	for i, x := range []struct {
		a, b  api.Conf
		legit []int
		want  api.Errno
	}{
		{a, chain(5, 5, m(1, 2), m(3, 1)), []int{1}, api.OK}, {api.Conf{}, api.Conf{}, nil, api.ErrRange}, {chain(1, 0), api.Conf{}, nil, api.ErrNone}, {a, chain(6, 0, m(9, 1)), nil, api.ErrArg}, {a, api.Conf{}, nil, api.ErrRange},
		{a, chain(4, 5, m(1, 2)), []int{1}, api.ErrOrder}, {a, chain(6, 5, m(1, 2)), []int{1}, api.ErrOrder}, {a, chain(5, 4, m(1, 2)), []int{1}, api.ErrOrder}, {a, chain(5, 5, m(1, 3)), []int{1}, api.ErrNone}, {a, chain(5, 5, m(2, 1)), []int{2}, api.ErrNone}, {a, chain(5, 5, m(1, 2)), []int{0}, api.ErrNone}, {a, chain(5, 9, m(0, 1)), []int{0, 1}, api.OK},
	} {
		if got := Follows(x.a, x.b, x.legit); got != x.want {
			t.Error(i, got)
		}
	}
}

// P38.6: a state hangs on nothing later; a scan is a part of it.
func TestFollows(t *testing.T) {
	r := rand.New(rand.NewSource(35))
	for range 500 {
		var l []api.Entry
		for i := range r.Intn(9) {
			var m []api.Op
			for range r.Intn(4) {
				m = append(m, api.Op{Key: "abcd"[r.Intn(4):][:1], Del: r.Intn(3) == 0})
			}
			l = append(l, e(i+1, uint64(i+1), ops.Norm(m)...))
		}
		at := uint64(r.Intn(10))
		state := State(l, at)
		if !slices.Equal(state, State(l[:min(int(at), len(l))], api.MaxTs)) {
			t.Fatal("later", l, at)
		}
		for _, x := range Rows(l, api.Ask{K: api.AScan, Key: "b", N: 1 + r.Intn(3)}, at) {
			if !slices.Contains(state, x) || x.Key < "b" {
				t.Fatal(x)
			}
		}
	}
}
