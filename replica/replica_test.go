package replica

import (
	"math/rand"
	"slices"
	"strconv"
	"testing"

	"catena/api"
	"catena/conf"
	"catena/disk"
	"catena/item"
	"catena/link"
	"catena/mess"
	"catena/note"
	"catena/point"
)

func chain(epoch int, floor uint64, ids ...int) api.Conf {
	c := api.Conf{Epoch: epoch, Floor: floor}
	for _, id := range ids {
		c.Members = append(c.Members, api.Member{Id: id, Serial: 1})
	}
	return c
}

func bytes(x api.Msg) string {
	s, e := mess.Put(x)
	if e != api.OK {
		panic(e)
	}
	return "M" + s
}

func where(c api.Conf, at uint64) string { return bytes(api.Msg{K: api.MConf, Conf: c, At: at}) }

func batch(client, req int, l ...api.Op) api.Batch {
	return api.Batch{Client: client, Req: req, Ops: l}
}

func write(epoch int, b api.Batch) string {
	return bytes(api.Msg{K: api.MWrite, Epoch: epoch, Batch: b})
}

func start(t *testing.T, id int, d *disk.Disk) *Replica {
	r, e := Start(id, d)
	if e != api.OK {
		t.Fatal(e)
	}
	return r
}

// msgs reads the messages that go out, by whom they go to.
func msgs(t *testing.T, l []api.Out) map[int][]api.Msg {
	m := map[int][]api.Msg{}
	for _, o := range l {
		if o.Body[0] == 'M' {
			x, e := mess.Of(o.Body[1:])
			if e != api.OK {
				t.Fatal(e)
			}
			m[o.To] = append(m[o.To], x)
		}
	}
	return m
}

// alone is a replica that is alone in the chain.
func alone(t *testing.T, floor uint64) (*Replica, *disk.Disk) {
	d := disk.New()
	r := start(t, 0, d)
	r.Deliver(api.Master, where(chain(1, floor, 0), 0))
	return r, d
}

// P33.1: starting on whatever disk.
func TestStart(t *testing.T) {
	for i, x := range []struct {
		id int
		d  *disk.Disk
		e  api.Errno
	}{{-1, disk.New(), api.ErrArg}, {4, disk.New(), api.ErrArg}, {0, nil, api.ErrArg}, {0, new(disk.Disk), api.ErrZero}} {
		if r, e := Start(x.id, x.d); r != nil || e != x.e {
			t.Errorf("%d: %d", i, e)
		}
	}
	d := disk.New()
	d.Write(5, "junk")
	r := start(t, 3, d)
	if !slices.Equal(d.Files(), []int{1}) || d.Pending() != 0 || r.Stable() != 0 || r.Good() != 0 || r.Ready() || !conf.Same(r.Conf(), api.Conf{}) || r.Mark() != 0 || len(r.Entries()) != 0 || r.Horizon() != 0 {
		t.Error("junk", d.Files())
	}
	r, d = alone(t, 0)
	r.Deliver(5, write(1, batch(0, 1)))
	d.Write(1, "") // what can't be read stands behind nothing
	p, _ := point.Open(d)
	p.Append("\xff")
	s, _ := note.Put(api.Note{K: api.NLegit, N: 1})
	p.Append(s)
	p.Sync()
	d.Crash(0)
	r = start(t, 0, d)
	if len(r.Entries()) != 1 || r.Good() != 1 || r.Stable() != 0 || !r.Ready() || r.Conf().Epoch != 1 {
		t.Error("again", r.Entries(), r.Good(), r.Stable())
	}
	p, _ = point.Open(d)
	p.Append(s)
	if start(t, 0, d); d.Pending() != 0 {
		t.Error("not safe behind Start")
	}
	if m := msgs(t, r.Tick()); r.Stable() != 1 || r.Mark() != 1 || len(m[5]) != 1 {
		t.Error("stable again", m)
	}
}

// P33.2, P33.3: alone in the chain, at once.
func TestAlone(t *testing.T) {
	r, _ := alone(t, 10)
	a := api.Op{Key: "a", Val: "1"}
	done := func(req int, at uint64) api.Msg { return api.Msg{K: api.MDone, Req: req, At: at} }
	no := func(req int, e api.Errno) api.Msg { return api.Msg{K: api.MNo, Req: req, E: e, Epoch: 1, N: 1} }
	for i, x := range []struct {
		from int
		s    string
		want api.Msg
	}{
		{5, write(1, batch(0, 3, a)), done(3, 10)}, {5, write(1, batch(0, 3)), done(3, 10)}, {5, write(1, batch(0, 2)), api.Msg{}}, {5, write(2, batch(0, 3)), no(3, api.ErrEpoch)}, {5, write(0, batch(0, 3)), no(3, api.ErrEpoch)},
		{5, write(1, batch(1, 1)), api.Msg{}}, {4, write(1, batch(0, 4)), api.Msg{}}, {0, write(1, batch(0, 4)), api.Msg{}}, {8, write(1, batch(0, 4)), api.Msg{}}, {-1, write(1, batch(0, 4)), api.Msg{}}, {6, write(1, batch(1, 1)), done(1, 11)},
		{5, "", api.Msg{}}, {5, "M", api.Msg{}}, {5, "X" + write(1, batch(0, 4))[1:], api.Msg{}}, {5, "M\x00", api.Msg{}}, {1, "S", api.Msg{}}, {5, "S\x01\x01\x00\x00\x00\x00\x00\x00", api.Msg{}},
		{7, bytes(api.Msg{K: api.MGet, Req: 1, Key: "a", At: 11}), api.Msg{K: api.MRows, Req: 1, Key: "a", At: 11, Pairs: []api.Pair{{Key: "a", Val: "1"}}}}, {7, bytes(api.Msg{K: api.MGet, Req: 1, Key: "a", At: 12}), no(1, api.ErrTooNew)},
		{7, bytes(api.Msg{K: api.MScan, Req: 1, At: 11, N: 0}), api.Msg{K: api.MRows, Req: 1, At: 11, Flag: true}}, {4, bytes(api.Msg{K: api.MGet, Req: 1, Key: "a", At: 11}), api.Msg{}}, {3, bytes(api.Msg{K: api.MGet, Req: 1, Key: "a", At: 11}), api.Msg{}},
		{5, where(chain(9, 0, 1), 11), api.Msg{}}, {5, bytes(api.Msg{K: api.MPin, Req: 1}), api.Msg{}},
	} {
		m := msgs(t, r.Deliver(x.from, x.s))
		if x.want.K == 0 && len(m) != 0 || x.want.K != 0 && (len(m) != 1 || len(m[x.from]) != 1 || !mess.Same(m[x.from][0], x.want)) {
			t.Errorf("%d: %v", i, m)
		}
	}
	if r.Good() != 2 || r.Stable() != 2 || r.Mark() != 11 || !r.Ready() || len(r.Entries()) != 2 || r.Conf().Epoch != 1 {
		t.Error(r.Entries())
	}
	m := msgs(t, r.Tick())
	if len(m) != 1 || len(m[api.Master]) != 1 || !mess.Same(m[api.Master][0], api.Msg{K: api.MBeat, Epoch: 1, Serial: 1, Flag: true, At: 11, Last: 11}) {
		t.Error("beat", m)
	}
}

// P33.2: the master's word: the horizon, and the epoch.
func TestFollow(t *testing.T) {
	r, d := alone(t, 0)
	for i := range 3 {
		r.Deliver(5, write(1, batch(0, i+1, api.Op{Key: "a", Val: strconv.Itoa(i)})))
	}
	r.Deliver(api.Master, where(chain(1, 0, 1, 0), 2))
	if r.Horizon() != 2 || conf.Head(r.Conf()) != 0 {
		t.Error("the horizon of an old configuration comes, too", r.Horizon())
	}
	if got := r.Entries(); len(got[0].Batch.Ops) != 0 || len(got[1].Batch.Ops) != 1 {
		t.Error("thinned", got)
	}
	m := msgs(t, r.Deliver(7, bytes(api.Msg{K: api.MGet, Req: 1, Key: "a", At: 1})))
	if len(m[7]) != 1 || m[7][0].E != api.ErrPruned {
		t.Error(m)
	}
	r.Deliver(api.Master, where(chain(1, 0, 0), 1))
	r.Deliver(api.Master, where(chain(3, 0, 1, 0), 0))
	if r.Horizon() != 2 || r.Conf().Epoch != 3 || r.Good() != 0 || r.Ready() || r.Stable() != 3 || r.Mark() != 3 {
		t.Error("a new epoch", r.Good(), r.Stable())
	}
	r.Deliver(api.Master, where(chain(2, 0, 0), 0))
	if r.Conf().Epoch != 3 {
		t.Error("the epoch goes back")
	}
	m = msgs(t, r.Deliver(5, write(3, batch(0, 3))))
	if len(m[5]) != 1 || !mess.Same(m[5][0], api.Msg{K: api.MNo, Req: 3, E: api.ErrEpoch, Epoch: 3, N: 2}) {
		t.Error("not the head", m)
	}
	d.Crash(0)
	r = start(t, 0, d)
	if r.Conf().Epoch != 3 || r.Horizon() != 2 || len(r.Entries()) != 3 {
		t.Error("written down")
	}
	d.Erase()
	r = start(t, 0, d)
	r.Deliver(api.Master, where(chain(4, 0, 0), 0))
	if r.Ready() || len(msgs(t, r.Deliver(5, write(4, batch(0, 1))))[5]) != 1 || len(r.Entries()) != 0 {
		t.Error("another disk is another member")
	}
}

// P33.3: nothing more behind the last timestamp; not too many without one.
func TestBounds(t *testing.T) {
	r, _ := alone(t, api.MaxTs-1)
	e := func(l []api.Out) api.Errno {
		m := msgs(t, l)
		if len(m[5]) != 1 {
			return -1
		}
		if m[5][0].K == api.MDone {
			return api.OK
		}
		return m[5][0].E
	}
	for i, want := range []api.Errno{api.OK, api.OK, api.ErrEnd, api.ErrEnd} {
		if got := e(r.Deliver(5, write(1, batch(0, i+1)))); got != want {
			t.Error(i, got)
		}
	}
	if e(r.Deliver(5, write(1, batch(0, 2)))) != api.OK || e(r.Deliver(5, write(1, batch(0, 1)))) != api.OK || len(r.Entries()) != 2 {
		t.Error("what is stable")
	}
	r, _ = alone(t, 0)
	for i := range api.MaxLog {
		if e(r.Deliver(5, write(1, batch(0, i+1)))) != api.OK {
			t.Fatal(i)
		}
	}
	if e(r.Deliver(5, write(1, batch(0, 101)))) != api.ErrOver || e(r.Deliver(5, write(1, batch(0, 100)))) != api.OK {
		t.Error("a full log")
	}
	r = start(t, 0, disk.New())
	r.Deliver(api.Master, where(chain(1, 0, 0, 1), 0))
	for i := range api.MaxWait {
		if e(r.Deliver(5, write(1, batch(0, i+1)))) != -1 {
			t.Fatal(i)
		}
	}
	if e(r.Deliver(5, write(1, batch(0, 17)))) != api.ErrOver || e(r.Deliver(5, write(1, batch(0, 16)))) != -1 || e(r.Deliver(5, write(1, batch(0, 3)))) != -1 || r.Good() != api.MaxWait || r.Stable() != 0 {
		t.Error("too many wait")
	}
}

// P33.3: what waits when the last timestamp is given is refused.
func TestEnded(t *testing.T) {
	n := net(t, api.MaxTs, 0, 1)
	n.sends(0, write(1, batch(0, 1)), 5)
	n.sends(0, write(1, batch(0, 2)), 5)
	n.run(8)
	m := msgs(t, n.nodes[0].Deliver(5, write(1, batch(0, 2))))
	if len(n.told[5]) != 1 || n.told[5][0].At != api.MaxTs || len(m[5]) != 1 || m[5][0].E != api.ErrEnd || len(n.nodes[0].Entries()) != 2 {
		t.Error(n.told, m)
	}
}

// nodes that tell one another all that goes out.
type nodes struct {
	t     *testing.T
	nodes []*Replica
	disks []*disk.Disk
	way   []api.Packet
	told  map[int][]api.Msg
}

func net(t *testing.T, floor uint64, ids ...int) *nodes {
	n := &nodes{t: t, told: map[int][]api.Msg{}}
	for i := range api.MaxReplicas {
		n.disks = append(n.disks, disk.New())
		n.nodes = append(n.nodes, start(t, i, n.disks[i]))
		n.sends(i, where(chain(1, floor, ids...), 0), api.Master)
	}
	return n
}

func (n *nodes) sends(to int, s string, from int) {
	n.out(to, n.nodes[to].Deliver(from, s))
}

func (n *nodes) out(from int, l []api.Out) {
	for _, o := range l {
		if o.To < api.MaxReplicas {
			n.way = append(n.way, api.Packet{From: from, To: o.To, Body: o.Body})
		}
	}
	for to, x := range msgs(n.t, l) {
		n.told[to] = append(n.told[to], x...)
	}
}

func (n *nodes) run(rounds int) {
	for range rounds {
		for i, r := range n.nodes {
			n.out(i, r.Tick())
		}
		for range len(n.way) {
			p := n.way[0]
			n.way = n.way[1:]
			n.sends(p.To, p.Body, p.From)
		}
	}
}

// P33.4, P33.5: along a chain all is adopted, stamped by the tail, and becomes stable.
func TestChain(t *testing.T) {
	n := net(t, 10, 2, 0, 1)
	for i := range 3 {
		n.sends(2, write(1, batch(0, i+1, api.Op{Key: "a", Val: strconv.Itoa(i)})), 5)
	}
	n.run(12)
	for _, i := range []int{2, 0, 1} {
		r := n.nodes[i]
		if r.Good() != 3 || r.Stable() != 3 || r.Mark() != 12 || !r.Ready() || len(r.Entries()) != 3 {
			t.Error(i, r.Good(), r.Stable(), r.Mark(), r.Ready())
		}
		m := msgs(t, r.Deliver(6, bytes(api.Msg{K: api.MGet, Req: 1, Key: "a", At: 11})))
		if len(m[6]) != 1 || len(m[6][0].Pairs) != 1 || m[6][0].Pairs[0].Val != "1" {
			t.Error(i, m)
		}
	}
	if n.nodes[3].Ready() || len(n.nodes[3].Entries()) != 0 {
		t.Error("no member")
	}
	var at []uint64
	for _, x := range n.told[5] {
		at = append(at, x.At)
	}
	if !slices.Equal(at, []uint64{10, 11, 12}) {
		t.Error("answers", at)
	}
}

// P33.2, P33.4: a word of another epoch, or of who does not stand there, is nothing.
func TestWord(t *testing.T) {
	fwd := api.Msg{K: api.MFwd, Epoch: 1, N: 1, P: 0, Req: 0, Entries: []api.Entry{{Batch: batch(0, 1)}}}
	for i, x := range []struct {
		from  int
		x     api.Msg
		good  int
		ready bool
	}{{1, fwd, 1, true}, {3, fwd, 0, false}, {1, api.Msg{K: api.MFwd, Epoch: 2, Entries: fwd.Entries}, 0, false}, {1, api.Msg{K: api.MAck, Epoch: 1, N: 5, M: 5}, 0, false}, {1, api.Msg{K: api.MFwd, Epoch: 1, N: 2, Entries: fwd.Entries}, 1, false}, {1, api.Msg{K: api.MWhere}, 0, false}} {
		r := start(t, 2, disk.New())
		r.Deliver(api.Master, where(chain(1, 0, 1, 2, 3), 0))
		s, _ := mess.Put(x.x)
		g, _ := link.Put(api.Seg{Boot: 1, Stream: 1, AckBoot: 1, AckStream: 1, Has: true, Body: s})
		r.Deliver(x.from, "S"+g)
		if r.Good() != x.good || r.Ready() != x.ready {
			t.Error(i, r.Good(), r.Ready())
		}
	}
}

// P33.6: those that nobody made.
func TestZero(t *testing.T) {
	for _, r := range []*Replica{nil, new(Replica)} {
		if len(r.Deliver(4, where(chain(1, 0, 0), 0))) != 0 || len(r.Tick()) != 0 || !conf.Same(r.Conf(), api.Conf{}) || r.Horizon() != 0 || len(r.Entries()) != 0 || r.Good() != 0 || r.Stable() != 0 || r.Mark() != 0 || r.Ready() {
			t.Error("not zero")
		}
	}
}

// P33.7: whatever comes, crashes and is lost: all that was written is known, the log is right, nothing goes back.
func TestFollows(t *testing.T) {
	r := rand.New(rand.NewSource(31))
	for range 40 {
		n := net(t, 0, 0, 1, 2)
		epoch, ids, req := 1, []int{0, 1, 2}, 0
		horizon := uint64(0)
		for range 300 {
			i := r.Intn(3)
			x := n.nodes[i]
			before := [3]uint64{x.Horizon(), uint64(x.Conf().Epoch), uint64(x.Stable())}
			crash := false
			switch k := r.Intn(20); {
			case k < 4:
				req++
				n.sends(ids[0], write(epoch, batch(0, req, api.Op{Key: "abc"[r.Intn(3):][:1], Val: "x"})), 5)
			case k < 8:
				n.out(i, x.Tick())
			case k < 9:
				if m := min(n.nodes[0].Mark(), n.nodes[1].Mark(), n.nodes[2].Mark()); m > horizon {
					horizon = m
				}
				n.sends(i, where(chain(epoch, 0, ids...), horizon), api.Master)
			case k < 10 && r.Intn(5) == 0:
				l := x.Entries()
				n.disks[i].Crash(r.Intn(9))
				n.nodes[i] = start(t, i, n.disks[i])
				crash = true
				if !slices.EqualFunc(l, n.nodes[i].Entries(), item.Same) {
					t.Fatal("forgotten")
				}
			default:
				if len(n.way) > 0 {
					at := r.Intn(len(n.way))
					p := n.way[at]
					if r.Intn(5) > 0 {
						n.way = slices.Delete(n.way, at, at+1)
					}
					if r.Intn(5) > 0 {
						n.sends(p.To, p.Body, p.From)
					}
				}
			}
			x = n.nodes[i]
			if item.Right(x.Entries()) != api.OK || n.disks[i].Pending() != 0 || x.Horizon() < before[0] || uint64(x.Conf().Epoch) < before[1] || !crash && uint64(x.Stable()) < before[2] {
				t.Fatal("goes back")
			}
		}
		n.run(60)
		for i, x := range n.nodes[:3] {
			if !slices.EqualFunc(x.Entries(), n.nodes[0].Entries(), func(a, b api.Entry) bool { return item.Twins(a, b) && a.Ts == b.Ts }) || x.Stable() != len(x.Entries()) || !x.Ready() {
				t.Fatal(i, x.Stable(), len(x.Entries()))
			}
		}
	}
}
