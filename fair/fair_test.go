package fair

import (
	"testing"

	"catena/api"
	"catena/cluster"
)

func made(t *testing.T, n int, floor uint64) *cluster.Cluster {
	c, e := cluster.New(n, floor)
	if e != api.OK {
		t.Fatal(e)
	}
	return c
}

func write(client int) api.Event {
	return api.Event{K: api.EvAsk, Node: client, Ask: api.Ask{K: api.AWrite, Ops: []api.Op{{Key: "a", Val: "1"}}}}
}

// P39.1: who is down is started.
func TestWake(t *testing.T) {
	c := made(t, 3, 0)
	if Wake(c) != 0 || c.Time() != 0 {
		t.Error("all are up")
	}
	for _, node := range []int{1, 3, api.Master} {
		c.Step(api.Event{K: api.EvCrash, Node: node})
	}
	if Settled(c) || Wake(c) != 3 || !c.Up(1) || !c.Up(3) || !c.Up(api.Master) || c.Time() != 6 {
		t.Error("wake", c.Time())
	}
}

// P39.1: a round: ticks, and as many packets as are on their way then.
func TestRound(t *testing.T) {
	c := made(t, 2, 0)
	c.Step(api.Event{K: api.EvCrash, Node: 3})
	time := c.Time()
	n := Round(c)
	// Three replicas tell the master, the master two members.
	if n != 5 || c.Time() != time+7+5 || c.Waiting() == 0 {
		t.Error(n, c.Time(), c.Waiting())
	}
}

// P39.1: what has settled, and what has not.
func TestSettled(t *testing.T) {
	c := made(t, 3, 0)
	if Settled(c) || Bound(c) != 200 {
		t.Error("nobody knows the epoch")
	}
	for range 3 {
		Round(c)
	}
	if !Settled(c) {
		t.Error("settled")
	}
	c.Step(write(0))
	if Settled(c) {
		t.Error("a client waits")
	}
	if n, ok := Run(c, Bound(c)); n < 3 || n > 15 || !ok || len(c.Deeds()) != 1 || c.Deeds()[0].End == 0 || Bound(c) != 208 {
		t.Error("run", n, ok)
	}
	for i := range 3 {
		if c.Mark(i) != 1 {
			t.Error(i, c.Mark(i))
		}
	}
	for _, node := range []int{3, api.Master, 1} {
		c.Step(api.Event{K: api.EvCrash, Node: node})
		if Settled(c) {
			t.Error("one is down", node)
		}
		if node != 1 {
			Wake(c)
		}
	}
	c.Step(api.Event{K: api.EvErase, Node: 1})
	Wake(c)
	if Settled(c) {
		t.Error("another disk")
	}
	if _, ok := Run(c, Bound(c)); !ok || len(c.Conf().Members) != 2 {
		t.Error("goes on", c.Conf())
	}
	c.Step(api.Event{K: api.EvJoin, Node: 1})
	for range 3 {
		Round(c)
	}
	if _, ok := Run(c, Bound(c)); !ok || len(c.Conf().Members) != 3 || len(c.Legit()) != 3 || c.Mark(1) != 1 {
		t.Error("joined", c.Conf(), c.Legit())
	}
}

// P39.1: behind the last timestamp some may be without.
func TestEnd(t *testing.T) {
	c := made(t, 2, api.MaxTs)
	for client := range 3 {
		c.Step(write(client))
	}
	if n, ok := Run(c, Bound(c)); !ok || len(c.Log(0)) < 1 {
		t.Error(n, ok)
	}
	ended := 0
	for _, d := range c.Deeds() {
		if d.Reply.E == api.ErrEnd {
			ended++
		}
	}
	if ended != 2 {
		t.Error(c.Deeds())
	}
}

// P39.2: no more rounds than may be.
func TestRun(t *testing.T) {
	c := made(t, 3, 0)
	for most, want := range map[int]int{-1 << 63: 0, -1: 0, 0: 0} {
		if n, ok := Run(c, most); n != want || ok || c.Time() != 0 {
			t.Error(most, n, ok)
		}
	}
	if n, ok := Run(c, 1); n != 1 || !ok {
		t.Error(n, ok)
	}
	c.Step(write(0))
	if n, ok := Run(c, 2); n != 2 || ok {
		t.Error(n, ok)
	}
	if n, ok := Run(c, 99); n < 1 || n > 15 || !ok {
		t.Error(n, ok)
	}
	if n, ok := Run(c, 0); n != 0 || !ok {
		t.Error(n, ok)
	}
	for _, c := range []*cluster.Cluster{nil, new(cluster.Cluster)} {
		if n, ok := Run(c, -5); n != 0 || ok {
			t.Error("nobody made it", n, ok)
		}
		if n, ok := Run(c, 1<<62); n != 1<<62 || ok || Wake(c) != 0 || Round(c) != 0 || Settled(c) || Bound(c) != 200 {
			t.Error("nobody made it", n, ok)
		}
	}
}
