package client

import (
	"math/rand"
	"slices"
	"testing"

	"catena/api"
	"catena/mess"
)

func made(t *testing.T) *Client {
	c, e := New(1)
	if e != api.OK {
		t.Fatal(e)
	}
	return c
}

func bytes(m api.Msg) string {
	s, e := mess.Put(m)
	if e != api.OK {
		panic(e)
	}
	return "M" + s
}

func where(epoch, head int) string {
	return bytes(api.Msg{K: api.MConf, Conf: api.Conf{Epoch: epoch, Members: []api.Member{{Id: head, Serial: 1}}}})
}

func done(req int, at uint64) string { return bytes(api.Msg{K: api.MDone, Req: req, At: at}) }

// goes tells whether just this goes out.
func goes(t *testing.T, got []api.Out, want ...api.Out) {
	t.Helper()
	if !slices.Equal(got, want) {
		t.Errorf("%v, not %v", got, want)
	}
}

var (
	write  = api.Ask{K: api.AWrite, Ops: []api.Op{{Key: "a", Val: "1"}}}
	latest = api.Ask{K: api.ALatest, Node: 3, Key: "a"}
	ask    = api.Out{To: api.Master, Body: "M\x0f"}
)

func sent(epoch, head, req int) api.Out {
	return api.Out{To: head, Body: bytes(api.Msg{K: api.MWrite, Epoch: epoch, Batch: api.Batch{Client: 1, Req: req, Ops: write.Ops}})}
}

func start(t *testing.T, c *Client, a api.Ask) []api.Out {
	t.Helper()
	l, e := c.Start(a)
	if e != api.OK {
		t.Error(e)
	}
	return l
}

// P35.1: starting, and what is told.
func TestStart(t *testing.T) {
	for id, want := range map[int]api.Errno{-1: api.ErrArg, 0: api.OK, 2: api.OK, 3: api.ErrArg} {
		if c, e := New(id); e != want || (c == nil) != (e != api.OK) {
			t.Error(id, e)
		}
	}
	c := made(t)
	if e, h := c.Hint(); e != 0 || h != -1 || c.Busy() || c.Req() != 0 {
		t.Error("new")
	}
	if r, ok := c.Reply(); ok || r.Req != 0 {
		t.Error("reply")
	}
	if l, e := c.Start(api.Ask{K: api.AGet, Node: 9}); len(l) != 0 || e != api.ErrArg || c.Busy() || c.Req() != 0 {
		t.Error("a number is used", e)
	}
	goes(t, start(t, c, write), ask)
	if l, e := c.Start(api.Ask{K: 99}); len(l) != 0 || e != api.ErrBusy || !c.Busy() || c.Req() != 1 {
		t.Error("busy", e)
	}
	c.req, c.task = api.MaxReq, nil
	if _, e := c.Start(write); e != api.ErrRange {
		t.Error(e)
	}
}

// P35.2: what comes.
func TestDeliver(t *testing.T) {
	c := made(t)
	start(t, c, write)
	for _, s := range []string{"", "M", "S" + where(3, 2)[1:], "M\x00", where(3, 2) + "x"} {
		goes(t, c.Deliver(api.Master, s))
	}
	goes(t, c.Deliver(0, where(3, 2)))
	goes(t, c.Deliver(api.Master, where(3, 2)), sent(3, 2, 1))
	goes(t, c.Deliver(api.Master, where(3, 1)))
	goes(t, c.Deliver(api.Master, where(2, 1)))
	if e, h := c.Hint(); e != 3 || h != 2 {
		t.Error(e, h)
	}
	goes(t, c.Deliver(api.Master, where(4, 0)), sent(4, 0, 1))
	goes(t, c.Deliver(0, bytes(api.Msg{K: api.MNo, Req: 9, E: api.ErrEpoch, Epoch: 4})))
	if c.asks {
		t.Error("asks too early")
	}
	goes(t, c.Deliver(0, bytes(api.Msg{K: api.MNo, Req: 9, E: api.ErrEpoch, Epoch: 5})))
	if !c.asks || !c.Busy() {
		t.Error("asks")
	}
	goes(t, c.Deliver(0, done(2, 9)))
	goes(t, c.Deliver(0, done(1, 9)))
	r, ok := c.Reply()
	if c.Busy() || !ok || r.Req != 1 || r.At != 9 || r.E != api.OK {
		t.Error(r)
	}
	goes(t, c.Deliver(0, done(1, 10)))
	if r, _ := c.Reply(); r.At != 9 {
		t.Error("answered twice")
	}
	goes(t, c.Deliver(api.Master, where(7, 1)))
	if e, h := c.Hint(); e != 7 || h != 1 {
		t.Error("the hint without a task", e, h)
	}
	start(t, c, latest)
	goes(t, c.Deliver(1, done(2, 12)), api.Out{To: 3, Body: bytes(api.Msg{K: api.MGet, Req: 2, Key: "a", At: 12})})
	goes(t, c.Deliver(api.Master, where(8, 1)))
	goes(t, c.Deliver(3, bytes(api.Msg{K: api.MRows, Req: 2, Key: "a", At: 12, Pairs: []api.Pair{{Key: "a", Val: "1"}}})))
	r, _ = c.Reply()
	if r.Req != 2 || r.At != 12 || len(r.Pairs) != 1 {
		t.Error(r)
	}
	r.Pairs[0].Key = "x"
	if r, _ := c.Reply(); r.Pairs[0].Key != "a" {
		t.Error("shared")
	}
}

// P35.3: ticks.
func TestTick(t *testing.T) {
	c := made(t)
	goes(t, c.Tick())
	start(t, c, write)
	for range 6 {
		goes(t, c.Tick(), ask)
	}
	c.Deliver(api.Master, where(3, 2))
	for i := 7; i < 13; i++ {
		if i%4 == 0 {
			goes(t, c.Tick(), sent(3, 2, 1), ask)
		} else {
			goes(t, c.Tick(), sent(3, 2, 1))
		}
	}
	c.Deliver(0, bytes(api.Msg{K: api.MNo, Epoch: 5}))
	goes(t, c.Tick(), sent(3, 2, 1), ask)
	goes(t, c.Tick(), sent(3, 2, 1))
	c.Deliver(2, done(1, 5))
	goes(t, c.Tick())
	start(t, c, write)
	for i := 15; i < 23; i++ { // the count goes on from task to task
		if i%4 == 0 {
			goes(t, c.Tick(), sent(3, 2, 2), ask)
		} else {
			goes(t, c.Tick(), sent(3, 2, 2))
		}
	}
	c.Deliver(2, done(2, 6))
	get := api.Out{To: 1, Body: bytes(api.Msg{K: api.MGet, Req: 3, Key: "a", At: 5})}
	goes(t, start(t, c, api.Ask{K: api.AGet, Node: 1, Key: "a", At: 5}), get)
	c.Deliver(0, bytes(api.Msg{K: api.MNo, Epoch: 5}))
	for range api.Patience {
		goes(t, c.Tick(), get)
	}
	goes(t, c.Tick())
	if r, ok := c.Reply(); !ok || r.Req != 3 || r.E != api.ErrLate || c.Busy() {
		t.Error(r)
	}
	start(t, c, write)
	goes(t, c.Tick(), sent(3, 2, 4), ask)
}

// P35.4: those that nobody made.
func TestZero(t *testing.T) {
	for _, c := range []*Client{nil, new(Client)} {
		if l, e := c.Start(write); len(l) != 0 || e != api.ErrZero {
			t.Error("start")
		}
		if r, ok := c.Reply(); ok || r.Req != 0 || len(c.Deliver(api.Master, where(1, 1))) != 0 || len(c.Tick()) != 0 || c.Busy() || c.Req() != 0 {
			t.Error("not zero")
		}
		if e, h := c.Hint(); e != 0 || h != -1 {
			t.Error("hint")
		}
	}
}

// P35.5: tasks are numbered one behind the other; what is sent can be read.
func TestFollows(t *testing.T) {
	r := rand.New(rand.NewSource(32))
	c := made(t)
	count := 0
	see := func(l []api.Out) {
		for _, o := range l {
			if _, e := mess.Of(o.Body[1:]); e != api.OK || o.Body[0] != 'M' || o.To < 0 {
				t.Fatal(o)
			}
		}
	}
	for range 20000 {
		replied, _ := c.Reply()
		switch r.Intn(4) {
		case 0:
			busy := c.Busy()
			l, e := c.Start([]api.Ask{write, latest, {K: api.AScan, N: 5}, {K: api.APin}, {K: 9}}[r.Intn(5)])
			if (e == api.ErrBusy) != busy {
				t.Fatal(e)
			}
			if e == api.OK {
				count++
			}
			see(l)
		case 1:
			see(c.Tick())
		default:
			m := api.Msg{K: 1 + r.Intn(15), Req: c.Req() - r.Intn(2), At: uint64(r.Intn(3)), E: api.Errno(r.Intn(22)), Epoch: r.Intn(5), Flag: true, N: 1, Pairs: []api.Pair{{Key: "a"}}, Conf: api.Conf{Epoch: 1 + r.Intn(9), Members: []api.Member{{Id: r.Intn(4), Serial: 1}}}, Batch: api.Batch{Req: 1}}
			if m.Req >= 0 {
				see(c.Deliver(r.Intn(5), bytes(m)))
			}
		}
		now, _ := c.Reply()
		if c.Req() != count || now.Req < replied.Req || now.Req == replied.Req && (now.E != replied.E || now.At != replied.At) {
			t.Fatal(c.Req(), now, replied)
		}
	}
	if count < 100 {
		t.Error(count)
	}
}
