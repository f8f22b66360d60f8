package cluster

import (
	"math/rand"
	"reflect"
	"slices"
	"testing"

	"catena/api"
	"catena/conf"
)

func made(t *testing.T, n int, floor uint64) *Cluster {
	c, e := New(n, floor)
	if e != api.OK {
		t.Fatal(e)
	}
	return c
}

func ask(client int, a api.Ask) api.Event { return api.Event{K: api.EvAsk, Node: client, Ask: a} }

func put(key, val string) api.Ask {
	return api.Ask{K: api.AWrite, Ops: []api.Op{{Key: key, Val: val}}}
}

// rounds lets all tick, and all come.
func rounds(c *Cluster, n int) {
	for range n {
		for node := range api.MaxNodes {
			c.Step(api.Event{K: api.EvTick, Node: node})
		}
		for range c.Waiting() {
			c.Step(api.Event{K: api.EvDeliver})
		}
	}
}

// P36.1: a new cluster.
func TestNew(t *testing.T) {
	for n, want := range map[int]api.Errno{-1: api.ErrArg, 0: api.ErrArg, 1: api.OK, 4: api.OK, 5: api.ErrArg} {
		if c, e := New(n, 0); e != want || (c == nil) != (e != api.OK) {
			t.Error(n, e)
		}
	}
	c := made(t, 3, 10)
	want := api.Conf{Epoch: 1, Members: []api.Member{{Id: 0, Serial: 1}, {Id: 1, Serial: 1}, {Id: 2, Serial: 1}}, Floor: 10}
	if !conf.Same(c.Conf(), want) || !slices.Equal(c.Legit(), []int{0, 1, 2}) || c.Time() != 0 || c.Waiting() != 0 || c.Lost() != 0 || len(c.Deeds()) != 0 || len(c.Pins()) != 0 || c.Serial(3) != 1 || c.Serial(4) != 0 || c.Serial(-1) != 0 {
		t.Error("new")
	}
	for node := -2; node < 11; node++ {
		if c.Up(node) != (node >= 0 && node < api.MaxNodes) {
			t.Error(node)
		}
	}
}

// P36.2: each step's errors.
func TestStep(t *testing.T) {
	c := made(t, 2, 0)
	ev := func(k, node, n int) api.Event { return api.Event{K: k, Node: node, N: n} }
	for i, x := range []struct {
		e    api.Event
		want api.Errno
	}{
		{ev(-1, 0, 0), api.ErrArg}, {ev(10, 0, 0), api.ErrArg},
		{ask(-1, put("a", "1")), api.ErrArg}, {ask(3, put("a", "1")), api.ErrArg}, {ask(0, put("", "1")), api.ErrArg}, {ask(0, put("a", "1")), api.OK}, {ask(0, put("a", "1")), api.ErrBusy},
		{ev(api.EvTick, -1, 0), api.ErrArg}, {ev(api.EvTick, 8, 0), api.ErrArg}, {ev(api.EvTick, 4, 0), api.OK}, {ev(api.EvTick, 7, 0), api.OK},
		{ev(api.EvDouble, 0, 1), api.OK}, {ev(api.EvDrop, 0, 0), api.OK}, {ev(api.EvDeliver, 0, 1<<62), api.OK},
		{ev(api.EvStart, 0, 0), api.ErrBusy}, {ev(api.EvStart, 4, 0), api.ErrBusy}, {ev(api.EvStart, 5, 0), api.ErrArg}, {ev(api.EvCrash, 5, 0), api.ErrArg}, {ev(api.EvCrash, -1, 0), api.ErrArg}, {ev(api.EvErase, 4, 0), api.ErrArg}, {ev(api.EvErase, 0, 0), api.ErrBusy},
		{ev(api.EvCrash, 3, 0), api.OK}, {ev(api.EvCrash, 3, 0), api.ErrDown}, {ev(api.EvTick, 3, 0), api.ErrDown}, {ev(api.EvErase, 3, 0), api.OK}, {ev(api.EvStart, 3, 0), api.OK}, {ev(api.EvStart, 3, 0), api.ErrBusy},
		{ev(api.EvJoin, 0, 0), api.ErrArg}, {ev(api.EvJoin, 3, 0), api.OK}, {ev(api.EvJoin, 9, 0), api.ErrArg}, {ev(api.EvRemove, 3, 0), api.ErrArg}, {ev(api.EvRemove, 1, 0), api.OK},
		{ev(api.EvCrash, 4, 9), api.OK}, {ev(api.EvCrash, 4, 9), api.ErrDown}, {ev(api.EvTick, 4, 0), api.ErrDown}, {ev(api.EvJoin, 0, 0), api.ErrDown}, {ev(api.EvRemove, 9, 0), api.ErrDown}, {ev(api.EvStart, 4, 0), api.OK},
	} {
		if e := c.Step(x.e); e != x.want || c.Time() != i+1 {
			t.Errorf("%d: %d at %d", i, e, c.Time())
		}
	}
	if c.Serial(3) != 2 || c.Lost() != 1 || len(c.Deeds()) != 1 || c.Deeds()[0].Begin != 6 {
		t.Error(c.Serial(3), c.Lost(), c.Deeds())
	}
	for c.Waiting() > 0 {
		c.Step(api.Event{K: api.EvDeliver})
	}
	for i, k := range []int{api.EvDeliver, api.EvDrop, api.EvDouble} {
		if e := c.Step(ev(k, 0, 0)); e != api.ErrNone {
			t.Error(i, e)
		}
	}
}

// P36.2, P36.3: what is asked for ends with its reply, at its step.
func TestDeeds(t *testing.T) {
	c := made(t, 1, 5)
	a := put("a", "1")
	c.Step(ask(2, a))
	a.Ops[0].Key = "x"
	if !c.Busy(2) || c.Busy(0) || c.Busy(-1) || c.Busy(3) {
		t.Error("busy")
	}
	rounds(c, 9)
	d := c.Deeds()
	if len(d) != 1 || d[0].End <= d[0].Begin || d[0].End > c.Time() || d[0].Client != 2 || d[0].Req != 1 || d[0].Reply.Req != 1 || d[0].Reply.At != 5 || d[0].Ask.Ops[0].Key != "a" || c.Busy(2) {
		t.Error(d)
	}
	if c.Mark(0) != 5 || c.Stable(0) != 1 || len(c.Log(0)) != 1 || c.Seen(0).Epoch != 1 || c.Horizon(0) != 3 || c.Horizon(4) != 3 || c.Horizon(5) != 0 || c.Horizon(-1) != 0 {
		t.Error("told", c.Horizon(0))
	}
	d[0].Ask.Ops[0].Key = "y"
	if c.Deeds()[0].Ask.Ops[0].Key != "a" {
		t.Error("shared")
	}
	c.Step(ask(2, api.Ask{K: api.ALatest, Node: 0, Key: "a"}))
	rounds(c, 6)
	c.Step(ask(0, api.Ask{K: api.APin, At: 6}))
	rounds(c, 2)
	d = c.Deeds()
	if d[1].Reply.At != 6 || len(d[1].Reply.Pairs) != 1 || d[1].Reply.Pairs[0] != (api.Pair{Key: "a", Val: "1"}) || d[2].Reply.Pin != 1 || len(c.Pins()) != 1 {
		t.Error(d)
	}
	c.Step(api.Event{K: api.EvCrash, Node: 0})
	c.Step(api.Event{K: api.EvCrash, Node: api.Master})
	if c.Mark(0) != 0 || c.Stable(0) != 0 || len(c.Log(0)) != 0 || c.Seen(0).Epoch != 0 || c.Horizon(0) != 0 || c.Horizon(4) != 0 || c.Conf().Epoch != 0 || len(c.Legit()) != 0 || len(c.Pins()) != 0 || c.Up(0) || c.Up(4) || c.Serial(0) != 1 {
		t.Error("down")
	}
	for len(c.Deeds()) < api.MaxCount {
		c.Step(ask(1, api.Ask{K: api.AGet, Key: "a"}))
		for range api.Patience + 1 {
			c.Step(api.Event{K: api.EvTick, Node: 6})
		}
	}
	if c.Step(ask(1, put("a", "1"))) != api.ErrFull || c.Step(ask(9, put("a", "1"))) != api.ErrArg {
		t.Error("full")
	}
}

// P36.2: who sends what, what comes to the master, and what a crash takes.
func TestPackets(t *testing.T) {
	c := made(t, 2, 0)
	c.Step(ask(2, put("a", "1")))
	if l := c.way.All(); !slices.Equal(l, []api.Packet{{From: 7, To: api.Master, Body: "M\x0f"}}) || c.Busy(0) {
		t.Error(l)
	}
	c.Step(ask(0, put("a", "1")))
	c.Step(api.Event{K: api.EvDeliver})
	if l := c.way.All(); !c.Busy(0) || len(l) != 2 || l[1].From != api.Master || l[1].To != 7 || l[1].Body[:2] != "M\x01" {
		t.Error(l)
	}
	for _, body := range []string{"", "M", "M\x00", "S\x0f", "\x0f", "MM\x0f"} {
		c.way.Send(api.Packet{From: 6, To: api.Master, Body: body})
		n := c.Waiting()
		if c.Step(api.Event{K: api.EvDeliver, N: n - 1}) != api.OK || c.Waiting() != n-1 {
			t.Errorf("%q", body)
		}
	}
	for _, node := range []int{1, api.Master} {
		d := c.safe
		if node == 1 {
			d = c.disks[1]
		}
		d.Write(99, "abc")
		c.Step(api.Event{K: api.EvCrash, Node: node, N: 2})
		if d.Data(99) != "ab" || d.Boots() != 2 {
			t.Error(node, d.Data(99))
		}
		n := c.Waiting()
		c.way.Send(api.Packet{From: 6, To: node, Body: "M\x0f"})
		if c.Step(api.Event{K: api.EvDeliver, N: n}) != api.OK || c.Waiting() != n || c.Lost() != 0 {
			t.Error("what comes to who is down is gone")
		}
	}
}

// Two clients write: timestamps behind the floor.
func TestThree(t *testing.T) {
	c := made(t, 3, 10)
	c.Step(ask(0, put("a", "1")))
	c.Step(ask(1, put("b", "2")))
	rounds(c, 15)
	var at []uint64
	for _, d := range c.Deeds() {
		at = append(at, d.Reply.At)
	}
	slices.Sort(at)
	if !slices.Equal(at, []uint64{10, 11}) {
		t.Error(c.Deeds())
	}
	for i := range 3 {
		if c.Mark(i) != 11 || c.Stable(i) != 2 {
			t.Error(i, c.Mark(i))
		}
	}
}

// P36.4: those that nobody made.
func TestZero(t *testing.T) {
	for _, c := range []*Cluster{nil, new(Cluster)} {
		if c.Step(api.Event{K: api.EvTick}) != api.ErrZero || c.Step(api.Event{K: -1}) != api.ErrZero || c.Time() != 0 || c.Up(0) || c.Up(5) || c.Waiting() != 0 || c.Lost() != 0 || len(c.Deeds()) != 0 || c.Busy(0) || len(c.Log(0)) != 0 || c.Stable(0) != 0 || c.Mark(0) != 0 || c.Horizon(0) != 0 || c.Horizon(4) != 0 || c.Seen(0).Epoch != 0 || c.Serial(0) != 0 || c.Conf().Epoch != 0 || len(c.Legit()) != 0 || len(c.Pins()) != 0 {
			t.Error("not zero")
		}
	}
}

// all is what a cluster tells, but for the time.
func all(c *Cluster) []any {
	l := []any{c.Waiting(), c.Lost(), c.Deeds(), c.Conf(), c.Legit(), c.Pins(), c.Horizon(4)}
	for i := range api.MaxNodes {
		l = append(l, c.Up(i), c.Busy(i), c.Log(i), c.Stable(i), c.Mark(i), c.Horizon(i), c.Seen(i), c.Serial(i))
	}
	return l
}

// P36.5: the same steps come to the same; what is refused changes nothing but the step's number.
func TestFollows(t *testing.T) {
	r := rand.New(rand.NewSource(33))
	for range 5 {
		a, b := made(t, 2, 3), made(t, 2, 3)
		for range 1500 {
			e := api.Event{K: []int{0, 1, 1, 1, 2, 2, 2, 2, 2, 3, 4, 5, 6, 6, 7, 8, 9, 10}[r.Intn(18)], Node: r.Intn(10) - 1, N: r.Intn(50) - 1, Ask: put("abc"[r.Intn(3):][:1], "1")}
			if r.Intn(3) == 0 {
				e.Ask = api.Ask{K: 1 + r.Intn(6), Node: r.Intn(4), Key: "a", At: uint64(r.Intn(20)), N: 3}
			}
			before, time := all(a), a.Time()
			x, y := a.Step(e), b.Step(e)
			if x != y || a.Time() != time+1 {
				t.Fatal(x, y)
			}
			refused := x == api.ErrArg || x == api.ErrDown || x == api.ErrBusy || x == api.ErrFull && e.K != api.EvTick
			if refused && !reflect.DeepEqual(before, all(a)) {
				t.Fatal("changed", e, x)
			}
		}
		if !reflect.DeepEqual(all(a), all(b)) {
			t.Fatal("not the same")
		}
	}
}
