package asks

import (
	"slices"
	"testing"

	"catena/api"
	"catena/mess"
)

func task(t *testing.T, a api.Ask) *Task {
	x, e := New(1, 7, a)
	if e != api.OK {
		t.Fatal(e)
	}
	return x
}

// sends tells whether a task sends this to that node, and may.
func sends(t *testing.T, x *Task, to int, m api.Msg) {
	t.Helper()
	got, msg := x.Next(4, 2)
	if got != to || !mess.Same(msg, m) || mess.Check(msg) != api.OK {
		t.Error(got, msg)
	}
}

// is tells whether a task is done with this.
func is(t *testing.T, x *Task, want api.Reply) {
	t.Helper()
	want.Req = 7
	r, ok := x.Done()
	if !ok || r.Req != want.Req || r.E != want.E || r.At != want.At || r.Pin != want.Pin || !slices.Equal(r.Pairs, want.Pairs) {
		t.Error(r, ok)
	}
	if to, m := x.Next(4, 2); to != -1 || !mess.Same(m, api.Msg{}) || x.Tick() || x.Take(2, api.Msg{K: api.MDone, Req: 7}) {
		t.Error("goes on")
	}
	for range api.Patience + 2 {
		x.Tick()
	}
	if again, _ := x.Done(); again.E != r.E || !slices.Equal(again.Pairs, r.Pairs) {
		t.Error("not the same later")
	}
}

func rows(key string, at uint64, more bool, l ...api.Pair) api.Msg {
	return api.Msg{K: api.MRows, Req: 7, Key: key, At: at, Flag: more, Pairs: l}
}

func no(e api.Errno) api.Msg { return api.Msg{K: api.MNo, Req: 7, E: e} }

func done(at uint64) api.Msg { return api.Msg{K: api.MDone, Req: 7, At: at} }

func p(key string) api.Pair { return api.Pair{Key: key, Val: "v"} }

// P34.1: what can be asked for.
func TestNew(t *testing.T) {
	five := []api.Op{{Key: "a"}, {Key: "b"}, {Key: "c"}, {Key: "d"}, {Key: "e"}}
	long := "123456789"
	for i, x := range []struct {
		client, req int
		a           api.Ask
		e           api.Errno
	}{
		{-1, 0, api.Ask{}, api.ErrArg}, {3, 1, api.Ask{}, api.ErrArg}, {0, 0, api.Ask{K: 9}, api.ErrRange}, {0, api.MaxReq + 1, api.Ask{}, api.ErrRange}, {0, api.MaxReq, api.Ask{}, api.OK},
		{0, 1, api.Ask{K: -1}, api.ErrArg}, {0, 1, api.Ask{K: 7}, api.ErrArg}, {0, 1, api.Ask{K: api.AWrite, Ops: five}, api.ErrArg}, {0, 1, api.Ask{K: api.AWrite, Ops: slices.Repeat(five[:4], 3), Node: 9, Key: long}, api.OK},
		{0, 1, api.Ask{K: api.AWrite, Ops: []api.Op{{}}}, api.ErrArg}, {0, 1, api.Ask{K: api.AWrite, Ops: []api.Op{{Key: "a", Val: "1", Del: true}, {Key: "a"}}}, api.OK},
		{0, 1, api.Ask{K: api.AGet, Node: 4, Key: "a"}, api.ErrArg}, {0, 1, api.Ask{K: api.AGet, Node: -1, Key: "a"}, api.ErrArg}, {0, 1, api.Ask{K: api.AGet, Node: 3}, api.ErrArg}, {0, 1, api.Ask{K: api.AGet, Node: 3, Key: long}, api.ErrArg}, {0, 1, api.Ask{K: api.AGet, Node: 3, Key: "a", N: -1}, api.OK},
		{0, 1, api.Ask{K: api.ALatest, Node: 4, Key: "a"}, api.ErrArg}, {0, 1, api.Ask{K: api.ALatest}, api.ErrArg}, {0, 1, api.Ask{K: api.ALatest, Key: "a", Ops: five}, api.OK},
		{0, 1, api.Ask{K: api.AScan, Node: 4, N: 1}, api.ErrArg}, {0, 1, api.Ask{K: api.AScan, N: 0}, api.ErrArg}, {0, 1, api.Ask{K: api.AScan, N: 33}, api.ErrArg}, {0, 1, api.Ask{K: api.AScan, N: 32}, api.OK}, {0, 1, api.Ask{K: api.AScan, N: 1, Key: long}, api.ErrArg}, {0, 1, api.Ask{K: api.AScan, N: 1, To: long}, api.ErrArg},
		{0, 1, api.Ask{K: api.AScan, N: 1, Key: long[:8], To: long[:8]}, api.OK}, {3, 1, api.Ask{K: api.AGet, Key: "a"}, api.ErrArg}, {0, 1, api.Ask{K: api.ARenew}, api.OK}, {0, 1, api.Ask{K: api.APin, N: -1, Node: 9}, api.OK}, {0, 1, api.Ask{K: api.ARenew, N: -1}, api.ErrArg}, {0, 1, api.Ask{K: api.AUnpin, N: api.MaxNum + 1}, api.ErrArg}, {0, 1, api.Ask{K: api.AUnpin, N: api.MaxNum}, api.OK},
	} {
		if got, e := New(x.client, x.req, x.a); e != x.e || (got == nil) != (e != api.OK) {
			t.Errorf("%d: %d", i, e)
		}
	}
}

// P34.2, P34.3: writing.
func TestWrite(t *testing.T) {
	l := []api.Op{{Key: "b", Val: "1"}, {Key: "a"}, {Key: "b", Val: "2"}}
	x := task(t, api.Ask{K: api.AWrite, Ops: l})
	l[1].Key = "z"
	b := api.Batch{Client: 1, Req: 7, Ops: []api.Op{{Key: "a"}, {Key: "b", Val: "2"}}}
	sends(t, x, 2, api.Msg{K: api.MWrite, Epoch: 4, Batch: b})
	for _, y := range []struct {
		epoch, head, to int
		m               api.Msg
	}{{9, -1, api.Master, api.Msg{K: api.MWhere}}, {-9, 0, 0, api.Msg{K: api.MWrite, Batch: b}}} {
		if to, m := x.Next(y.epoch, y.head); to != y.to || !mess.Same(m, y.m) {
			t.Error(to, m)
		}
	}
	for i, y := range []struct {
		from int
		m    api.Msg
	}{{4, done(5)}, {5, done(5)}, {-1, done(5)}, {2, api.Msg{K: api.MDone, Req: 6, At: 5}}, {2, no(api.ErrEpoch)}, {2, no(api.ErrOver)}, {4, no(api.ErrEnd)}, {2, rows("", 0, false)}, {2, api.Msg{}}, {4, api.Msg{K: api.MPinned, Req: 7}}} {
		if x.Take(y.from, y.m) {
			t.Error(i)
		}
		if _, ok := x.Done(); ok {
			t.Error(i, "done")
		}
	}
	for range 3 * api.Patience {
		if !x.Tick() {
			t.Error("gives up")
		}
	}
	if !x.Writes() || x.Take(3, done(5)) {
		t.Error("done")
	}
	is(t, x, api.Reply{At: 5})
	x = task(t, api.Ask{K: api.AWrite})
	x.Take(0, no(api.ErrEnd))
	is(t, x, api.Reply{E: api.ErrEnd})
}

// P34.3, P34.4: the latest, behind a fence.
func TestLatest(t *testing.T) {
	begin := func() *Task {
		return task(t, api.Ask{K: api.ALatest, Node: 3, Key: "k", At: 99, Ops: []api.Op{{Key: "a"}}})
	}
	x := begin()
	sends(t, x, 2, api.Msg{K: api.MWrite, Epoch: 4, Batch: api.Batch{Client: 1, Req: 7}})
	if !x.Writes() {
		t.Error("writes")
	}
	for range 2 * api.Patience {
		x.Tick()
	}
	if !x.Take(0, done(5)) || x.Writes() {
		t.Error("reads now")
	}
	sends(t, x, 3, api.Msg{K: api.MGet, Req: 7, Key: "k", At: 5})
	for range api.Patience {
		if !x.Tick() {
			t.Error("late too early")
		}
	}
	if x.Take(0, done(6)) || x.Take(3, no(api.ErrTooNew)) || x.Take(0, no(api.ErrPruned)) || x.Take(3, rows("k", 6, false, p("k"))) || x.Take(3, rows("j", 5, false, p("j"))) || x.Take(2, rows("k", 5, false)) {
		t.Error("something else")
	}
	if x.Take(3, rows("k", 5, true, p("k"), p("l"))) {
		t.Error("done")
	}
	is(t, x, api.Reply{At: 5, Pairs: []api.Pair{p("k")}})
	x = begin()
	x.Take(0, done(5))
	x.Take(3, no(api.ErrPruned))
	is(t, x, api.Reply{E: api.ErrPruned})
	x = begin()
	x.Take(0, no(api.ErrEnd))
	is(t, x, api.Reply{E: api.ErrEnd})
}

// P34.3, P34.4: reading a key.
func TestGet(t *testing.T) {
	begin := func() *Task { return task(t, api.Ask{K: api.AGet, Node: 3, Key: "k", At: 5}) }
	x := begin()
	sends(t, x, 3, api.Msg{K: api.MGet, Req: 7, Key: "k", At: 5})
	if x.Writes() || x.Take(3, rows("k", 5, false)) {
		t.Error("done")
	}
	is(t, x, api.Reply{At: 5})
	x = begin()
	x.Take(3, no(api.ErrTooNew))
	is(t, x, api.Reply{E: api.ErrTooNew})
	x = begin()
	for i := range api.Patience + 1 {
		if x.Tick() != (i < api.Patience) {
			t.Error(i)
		}
	}
	is(t, x, api.Reply{E: api.ErrLate})
}

// P34.2, P34.3, P34.6: a scan, page by page.
func TestScan(t *testing.T) {
	begin := func(n int) *Task { return task(t, api.Ask{K: api.AScan, Node: 3, Key: "a", To: "x", At: 5, N: n}) }
	scan := func(key string, n int) api.Msg {
		return api.Msg{K: api.MScan, Req: 7, Key: key, To: "x", At: 5, N: n}
	}
	x := begin(3)
	sends(t, x, 3, scan("a", 2))
	for range api.Patience {
		x.Tick()
	}
	if !x.Take(3, rows("a", 5, true, p("b"), p("c"), p("d"))) || x.Take(3, rows("a", 5, true, p("b"), p("c"))) {
		t.Error("the next page")
	}
	sends(t, x, 3, scan("c\x00", 1))
	for range api.Patience {
		if !x.Tick() {
			t.Error("waits anew")
		}
	}
	if x.Take(3, rows("c\x00", 5, true, p("d"), p("e"))) {
		t.Error("done")
	}
	is(t, x, api.Reply{At: 5, Pairs: []api.Pair{p("b"), p("c"), p("d")}})
	for i, y := range []api.Msg{rows("a", 5, false, p("b")), rows("a", 5, true), rows("a", 5, false), rows("a", 5, true, p("\xff\xff\xff\xff\xff\xff\xff\xff"))} {
		x := begin(3)
		if x.Take(3, y) {
			t.Error(i)
		}
		is(t, x, api.Reply{At: 5, Pairs: y.Pairs})
	}
	x = begin(9)
	if !x.Take(3, rows("a", 5, true, p("b"))) {
		t.Error("a page of one pair")
	}
	sends(t, x, 3, scan("b\x00", 2))
	x = begin(1)
	sends(t, x, 3, scan("a", 1))
	x.Take(3, rows("a", 5, true, p("b"), p("c")))
	is(t, x, api.Reply{At: 5, Pairs: []api.Pair{p("b")}})
	for _, e := range []api.Errno{api.ErrTooNew, api.ErrPruned} {
		x = begin(9)
		x.Take(3, rows("a", 5, true, p("b"), p("c")))
		x.Take(3, no(e))
		is(t, x, api.Reply{E: e})
	}
	x = begin(9)
	x.Take(3, rows("a", 5, true, p("b"), p("c")))
	for range api.Patience + 1 {
		x.Tick()
	}
	is(t, x, api.Reply{E: api.ErrLate})
}

// P34.2, P34.3: pins.
func TestPin(t *testing.T) {
	for k, m := range map[int]api.Msg{api.APin: {K: api.MPin, Req: 7, At: 9}, api.ARenew: {K: api.MRenew, Req: 7, N: 3}, api.AUnpin: {K: api.MUnpin, Req: 7, N: 3}} {
		x := task(t, api.Ask{K: k, At: 9, N: 3})
		sends(t, x, api.Master, m)
		if x.Take(2, api.Msg{K: api.MPinned, Req: 7, N: 5}) || x.Take(2, no(api.ErrPins)) || x.Take(api.Master, done(5)) || x.Take(api.Master, api.Msg{K: api.MPinned, Req: 8}) || x.Writes() {
			t.Error(k)
		}
		for range 3 * api.Patience {
			if !x.Tick() {
				t.Error("gives up")
			}
		}
		x.Take(api.Master, api.Msg{K: api.MPinned, Req: 7, N: 5})
		is(t, x, api.Reply{Pin: 5})
		x = task(t, api.Ask{K: k, At: 9, N: 3})
		x.Take(api.Master, no(api.ErrPins))
		is(t, x, api.Reply{E: api.ErrPins})
	}
}

// P34.5: those that nobody made.
func TestZero(t *testing.T) {
	for _, x := range []*Task{nil, new(Task)} {
		if to, m := x.Next(1, 1); to != -1 || !mess.Same(m, api.Msg{}) {
			t.Error("next")
		}
		if r, ok := x.Done(); ok || r.Req != 0 || x.Take(0, api.Msg{}) || x.Tick() || x.Writes() {
			t.Error("not zero")
		}
	}
}
