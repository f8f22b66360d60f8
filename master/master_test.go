package master

import (
	"math/rand"
	"slices"
	"testing"

	"catena/api"
	"catena/conf"
	"catena/disk"
	"catena/mess"
	"catena/point"
)

func chain(epoch int, ids ...int) api.Conf {
	c := api.Conf{Epoch: epoch, Floor: 3}
	for _, id := range ids {
		c.Members = append(c.Members, api.Member{Id: id, Serial: 1})
	}
	return c
}

func made(t *testing.T, ids ...int) (*Master, *disk.Disk) {
	d := disk.New()
	m, e := New(d, chain(1, ids...))
	if e != api.OK {
		t.Fatal(e)
	}
	return m, d
}

// out reads what goes out, by whom it goes to.
func out(t *testing.T, l []api.Out) (to []int, msgs []api.Msg) {
	for _, o := range l {
		x, e := mess.Of(o.Body)
		if e != api.OK {
			t.Fatal(e)
		}
		to, msgs = append(to, o.To), append(msgs, x)
	}
	return to, msgs
}

// one tells the one message that goes out, and to whom; -1 without.
func one(t *testing.T, l []api.Out) (int, api.Msg) {
	to, msgs := out(t, l)
	if len(to) == 0 {
		return -1, api.Msg{}
	}
	if len(to) > 1 {
		t.Fatal(to)
	}
	return to[0], msgs[0]
}

func beat(epoch, serial int, flag bool, at, last uint64) api.Msg {
	return api.Msg{K: api.MBeat, Epoch: epoch, Serial: serial, Flag: flag, At: at, Last: last}
}

// again is what is known behind a crash that takes all that is not safe.
func again(t *testing.T, d *disk.Disk) *Master {
	d.Crash(0)
	m, e := Open(d)
	if e != api.OK {
		t.Fatal(e)
	}
	return m
}

// P29.1: beginning, anew and again.
func TestNew(t *testing.T) {
	full := disk.New()
	full.Write(1, "x")
	for i, x := range []struct {
		d *disk.Disk
		c api.Conf
		e api.Errno
	}{{nil, api.Conf{}, api.ErrRange}, {nil, chain(1, 0), api.ErrArg}, {full, chain(1, 0), api.ErrFull}, {full, chain(1), api.ErrNone}, {new(disk.Disk), chain(1, 0), api.ErrZero}} {
		if m, e := New(x.d, x.c); m != nil || e != x.e {
			t.Errorf("%d: %d", i, e)
		}
	}
	for i, x := range []struct {
		d *disk.Disk
		e api.Errno
	}{{nil, api.ErrArg}, {disk.New(), api.ErrNone}, {full, api.ErrNone}} {
		if m, e := Open(x.d); m != nil || e != x.e {
			t.Errorf("Open %d: %d", i, e)
		}
	}
	empty := disk.New()
	point.New(empty)
	if m, e := Open(empty); m != nil || e != api.ErrNone {
		t.Error("no configuration", e)
	}
	m, d := made(t, 2, 0)
	for range 2 {
		if !conf.Same(m.Conf(), chain(1, 2, 0)) || !slices.Equal(m.Legit(), []int{0, 2}) || m.Horizon() != 0 || len(m.Pins()) != 0 || m.Said(0) != (api.Answer{}) {
			t.Error(m.Conf(), m.Legit())
		}
		m = again(t, d)
	}
	d2 := disk.New()
	d2.Write(1, "\x02")
	if _, e := Open(d2); e != api.ErrNone {
		t.Error(e)
	}
}

// P29.2: beats and questions.
func TestDeliver(t *testing.T) {
	m, d := made(t, 0, 1)
	for i, x := range []struct {
		from int
		x    api.Msg
		to   int
	}{
		{0, beat(0, 1, false, 0, 0), 0}, {0, beat(1, 1, false, 0, 0), -1}, {0, beat(2, 1, false, 0, 0), -1}, {3, beat(0, 7, false, 0, 0), 3}, {3, beat(1, 7, false, 0, 0), -1}, {5, beat(0, 1, false, 0, 0), -1}, {4, beat(0, 1, false, 0, 0), -1}, {-1, beat(0, 1, false, 0, 0), -1},
		{0, beat(-1, 1, false, 0, 0), -1}, {0, api.Msg{K: api.MWhere}, 0}, {7, api.Msg{K: api.MWhere}, 7}, {4, api.Msg{K: api.MWhere}, -1}, {8, api.Msg{K: api.MWhere}, -1}, {-1, api.Msg{K: api.MWhere}, -1}, {1 << 62, api.Msg{K: api.MWhere}, -1}, {5, api.Msg{}, -1}, {5, api.Msg{K: api.MDone, Req: 1}, -1}, {0, api.Msg{K: api.MPin, Req: 1}, -1}, {8, api.Msg{K: api.MPin, Req: 1}, -1},
	} {
		to, msg := one(t, m.Deliver(x.from, x.x))
		if to != x.to || to >= 0 && !mess.Same(msg, api.Msg{K: api.MConf, Conf: chain(1, 0, 1)}) {
			t.Errorf("%d: %d %v", i, to, msg)
		}
	}
	if m.Leave(3) || !m.Leave(0) || m.Leave(-1) {
		t.Error("leave")
	}
	m.Tick()
	if !conf.Same(m.Conf(), api.Conf{Epoch: 2, Members: []api.Member{{Id: 1, Serial: 1}}, Floor: 3}) || !slices.Equal(m.Legit(), []int{1}) {
		t.Error(m.Conf(), m.Legit())
	}
	if !conf.Same(m.Conf(), again(t, d).Conf()) {
		t.Error("not written")
	}
}

// P29.4, P29.5: who is late, who leaves, whose disk is lost, who joins; and who is trusted then.
func TestTick(t *testing.T) {
	m, d := made(t, 0, 1)
	if m.Join(0) || m.Join(-1) || m.Join(4) || !m.Join(2) || !m.Join(3) {
		t.Error("join")
	}
	m.Deliver(2, beat(0, 5, false, 0, 0))
	m.Deliver(1, beat(1, 1, true, 9, 20))
	if !m.Join(2) {
		t.Error("join again")
	}
	m.Tick()
	if m.Conf().Epoch != 1 {
		t.Error("who told no disk joins", m.Conf())
	}
	m.Deliver(2, beat(0, 6, false, 0, 99))
	to, msgs := out(t, m.Tick())
	want := api.Conf{Epoch: 2, Members: []api.Member{{Id: 0, Serial: 1}, {Id: 1, Serial: 1}, {Id: 2, Serial: 6}}, Floor: 21}
	if !conf.Same(m.Conf(), want) || !slices.Equal(m.Legit(), []int{0, 1}) || !slices.Equal(to, []int{0, 1, 2}) {
		t.Error(m.Conf(), m.Legit(), to)
	}
	for _, x := range msgs {
		if !mess.Same(x, api.Msg{K: api.MConf, Conf: want}) {
			t.Error(x)
		}
	}
	m.Deliver(2, beat(1, 6, true, 0, 0))
	m.Deliver(2, beat(2, 6, false, 0, 0))
	if len(m.Legit()) != 2 {
		t.Error("trusted too early")
	}
	m.Deliver(2, beat(2, 6, true, 0, 0))
	if !slices.Equal(m.Legit(), []int{0, 1, 2}) || !slices.Equal(again(t, d).Legit(), []int{0, 1, 2}) {
		t.Error(m.Legit())
	}
	m.Deliver(0, beat(2, 2, true, 0, 0)) // another disk: that of the member is lost
	m.Tick()
	if m.Conf().Epoch != 3 || conf.Head(m.Conf()) != 1 || conf.Tail(m.Conf()) != 2 || !slices.Equal(m.Legit(), []int{1, 2}) {
		t.Error(m.Conf(), m.Legit())
	}
	for i := range api.Suspect {
		m.Deliver(2, beat(3, 6, true, 0, 0))
		if m.Conf().Epoch != 3 {
			t.Error("late too early", i)
		}
		m.Tick()
	}
	if m.Conf().Epoch != 4 || conf.Head(m.Conf()) != 2 || len(m.Conf().Members) != 1 {
		t.Error(m.Conf())
	}
	for range 2 * api.Suspect {
		m.Tick()
	}
	if m.Conf().Epoch != 4 {
		t.Error("without anybody who is trusted nothing comes", m.Conf())
	}
}

// The example: one of two is late.
func TestLate(t *testing.T) {
	m, _ := made(t, 0, 1)
	for range api.Suspect {
		m.Deliver(1, beat(1, 1, true, 0, 0))
		m.Tick()
	}
	if !conf.Same(m.Conf(), api.Conf{Epoch: 2, Members: []api.Member{{Id: 1, Serial: 1}}, Floor: 3}) {
		t.Error(m.Conf())
	}
}

// P29.4: a wish, and a disk's being lost, go with the configuration that follows.
func TestWishes(t *testing.T) {
	m, _ := made(t, 0, 1)
	join := func(id, serial int) {
		if !m.Join(id) {
			t.Fatal("join", id)
		}
		m.Deliver(id, beat(0, serial, false, 0, 0))
		m.Tick()
	}
	steps := func(want ...int) {
		t.Helper()
		var ids []int
		for _, x := range m.Conf().Members {
			ids = append(ids, x.Id)
		}
		epoch := m.Conf().Epoch
		m.Tick()
		if !slices.Equal(ids, want) || m.Conf().Epoch != epoch {
			t.Error(ids, m.Conf())
		}
	}
	join(2, 1)
	steps(0, 1, 2)
	m.Leave(2)
	m.Tick()
	m.Deliver(2, beat(2, 1, false, 0, 0))
	steps(0, 1) // who joined once does not join again
	join(2, 1)
	steps(0, 1, 2) // who left once does not leave again
	m.Deliver(0, beat(1, 2, false, 0, 0))
	m.Tick()
	steps(1, 2)
	join(0, 2)
	steps(1, 2, 0) // whose disk was lost once has another one now
	m.Deliver(1, beat(m.Conf().Epoch, 1, true, 99, 99))
	m.Deliver(2, beat(m.Conf().Epoch, 1, true, 99, 99))
	m.Leave(0)
	m.Tick()
	steps(1, 2)
	if m.Horizon() != 0 {
		t.Error("marks of the epoch ahead count", m.Horizon())
	}
}

// P29.4: the horizon follows the marks, and waits for pins.
func TestHorizon(t *testing.T) {
	m, d := made(t, 0, 1)
	m.Deliver(0, beat(1, 1, true, 9, 9))
	m.Tick()
	if m.Horizon() != 0 {
		t.Error("one mark is not known")
	}
	m.Deliver(1, beat(1, 1, true, 7, 9))
	_, msgs := out(t, m.Tick())
	if m.Horizon() != 5 || msgs[0].At != 5 || again(t, d).Horizon() != 5 {
		t.Error(m.Horizon())
	}
	to, x := one(t, m.Deliver(5, api.Msg{K: api.MPin, Req: 1, At: 4}))
	if to != 5 || !mess.Same(x, api.Msg{K: api.MNo, Req: 1, E: api.ErrPruned, Epoch: 1, N: 1}) {
		t.Error(to, x)
	}
	for req, e := range []api.Errno{api.OK, api.OK, api.OK, api.ErrPins} {
		if m.Deliver(6, api.Msg{K: api.MPin, Req: req + 1, At: 5}); m.Said(1).E != e {
			t.Error(m.Said(1))
		}
	}
	if m.Deliver(6, api.Msg{K: api.MPin, Req: 5, At: 4}); m.Said(1).E != api.ErrPruned {
		t.Error("too old is told ahead of too many", m.Said(1))
	}
	for id := range 3 {
		m.Deliver(6, api.Msg{K: api.MUnpin, Req: 6 + id, N: id + 1})
	}
	m.Deliver(5, api.Msg{K: api.MPin, Req: 2, At: 6})
	m.Deliver(0, beat(1, 1, true, 90, 90))
	m.Deliver(1, beat(1, 1, true, 90, 90))
	for i := range api.Lease {
		if m.Horizon() > 6 || i > 0 && m.Horizon() != 6 {
			t.Error(i, m.Horizon())
		}
		m.Deliver(0, beat(1, 1, true, 90, 90))
		m.Deliver(1, beat(1, 1, true, 90, 90))
		m.Tick()
	}
	if m.Horizon() != 88 || len(m.Pins()) != 0 {
		t.Error(m.Horizon(), m.Pins())
	}
	m.Join(2)
	m.Deliver(2, beat(0, 1, false, 0, 0))
	m.Deliver(0, beat(1, 1, true, 99, 99))
	m.Deliver(1, beat(1, 1, true, 99, 99))
	m.Tick()
	if m.Conf().Epoch != 2 || m.Horizon() != 88 {
		t.Error("marks are known in an epoch alone", m.Horizon())
	}
}

// P29.3: what a client asks for, once.
func TestPins(t *testing.T) {
	m, d := made(t, 2, 1)
	ask := func(k, req, n int, at uint64) api.Msg { return api.Msg{K: k, Req: req, N: n, At: at} }
	pinned := func(req, n int) api.Msg { return api.Msg{K: api.MPinned, Req: req, N: n} }
	no := func(req int, e api.Errno) api.Msg { return api.Msg{K: api.MNo, Req: req, E: e, Epoch: 1, N: 3} }
	for i, x := range []struct {
		from    int
		x, want api.Msg
	}{
		{5, ask(api.MPin, 0, 0, 5), api.Msg{}}, {5, ask(api.MPin, 3, 0, 5), pinned(3, 1)}, {5, ask(api.MPin, 3, 0, 9), pinned(3, 1)}, {5, ask(api.MPin, 2, 0, 9), api.Msg{}}, {5, ask(api.MUnpin, 3, 1, 0), pinned(3, 1)},
		{6, ask(api.MPin, 1, 0, 6), pinned(1, 2)}, {7, ask(api.MPin, 1, 0, 7), pinned(1, 3)}, {7, ask(api.MPin, 2, 0, 7), no(2, api.ErrPins)}, {7, ask(api.MRenew, 2, 3, 7), no(2, api.ErrPins)},
		{7, ask(api.MRenew, 3, 4, 0), no(3, api.ErrNone)}, {7, ask(api.MUnpin, 4, 0, 0), no(4, api.ErrNone)}, {7, ask(api.MRenew, 5, 2, 0), pinned(5, 2)}, {7, ask(api.MUnpin, 6, 2, 0), pinned(6, 2)}, {7, ask(api.MUnpin, 7, 2, 0), no(7, api.ErrNone)},
		{7, ask(api.MPin, api.MaxReq, 0, 8), pinned(api.MaxReq, 4)},
	} {
		to, got := one(t, m.Deliver(x.from, x.x))
		if !mess.Same(got, x.want) || to != map[bool]int{true: x.from, false: -1}[x.want.K != 0] {
			t.Errorf("%d: %d %v", i, to, got)
		}
	}
	want := []api.Pin{{Id: 1, At: 5, Left: 8}, {Id: 3, At: 7, Left: 8}, {Id: 4, At: 8, Left: 8}}
	if !slices.Equal(m.Pins(), want) || m.Said(2) != (api.Answer{Client: 2, Req: api.MaxReq, Pin: 4}) || m.Said(3) != (api.Answer{}) {
		t.Error(m.Pins(), m.Said(2))
	}
	m.Deliver(0, beat(1, 1, true, 9, 9))
	m.Tick()
	m.Deliver(6, ask(api.MRenew, 2, 1, 0))
	if l := m.Pins(); l[0].Left != 8 || l[1].Left != 7 {
		t.Error("the first one", l)
	}
	m.Tick()
	m.Deliver(5, ask(api.MRenew, 4, 3, 0))
	if l := m.Pins(); l[0].Left != 7 || l[1].Left != 8 || l[2].Left != 6 {
		t.Error(l)
	}
	m = again(t, d)
	if !slices.Equal(m.Pins(), want) || m.Said(0) != (api.Answer{Client: 0, Req: 4, Pin: 3}) {
		t.Error("again", m.Pins(), m.Said(0))
	}
	if _, got := one(t, m.Deliver(5, ask(api.MPin, 4, 3, 9))); !mess.Same(got, pinned(4, 3)) {
		t.Error("told again", got)
	}
	for range api.Lease {
		m.Tick()
	}
	if len(m.Pins()) != 0 || len(again(t, d).Pins()) != 0 {
		t.Error(m.Pins())
	}
}

// P29.6: those that nobody made.
func TestZero(t *testing.T) {
	for _, m := range []*Master{nil, new(Master)} {
		if len(m.Deliver(0, api.Msg{K: api.MWhere})) != 0 || len(m.Tick()) != 0 || m.Join(0) || m.Leave(0) || !conf.Same(m.Conf(), api.Conf{}) || len(m.Legit()) != 0 || m.Horizon() != 0 || len(m.Pins()) != 0 || m.Said(0) != (api.Answer{}) {
			t.Error("not zero")
		}
	}
}

// P29.7: whenever a crash comes, all that was told is known; nothing goes back.
func TestFollows(t *testing.T) {
	r := rand.New(rand.NewSource(28))
	for range 60 {
		m, d := made(t, 0, 1, 2)
		left := map[int]api.Pin{}
		for range 400 {
			before, trusted, horizon := m.Conf(), m.Legit(), m.Horizon()
			switch r.Intn(8) {
			case 0, 1:
				m.Tick()
				for id, p := range left {
					p.Left--
					left[id] = p
				}
			case 2:
				m.Join(r.Intn(5))
			case 3:
				if r.Intn(6) == 0 {
					m.Leave(r.Intn(5))
				}
			case 4:
				client := r.Intn(3)
				k, n := api.MPin+r.Intn(3), r.Intn(9)
				req := m.Said(client).Req + r.Intn(2)
				known := m.Said(client).Req == req
				to, x := one(t, m.Deliver(api.FirstClient+client, api.Msg{K: k, Req: req, N: n, At: m.Horizon() + uint64(r.Intn(6)) - min(m.Horizon(), 2)}))
				if to >= 0 && m.Said(client).Req != req {
					t.Fatal("told, and not known")
				}
				for _, p := range m.Pins() {
					if to >= 0 && !known && x.K == api.MPinned && x.N == p.Id {
						left[p.Id] = p
					}
				}
				if to >= 0 && !known && x.K == api.MPinned && k == api.MUnpin {
					delete(left, x.N)
				}
			default:
				m.Deliver(r.Intn(4), beat(m.Conf().Epoch-r.Intn(2), 1+r.Intn(40)/39, r.Intn(2) == 0, m.Horizon()+uint64(r.Intn(9)), uint64(r.Intn(300))))
			}
			if r.Intn(9) == 0 {
				told := [3]api.Answer{m.Said(0), m.Said(1), m.Said(2)}
				c, l, h := m.Conf(), m.Legit(), m.Horizon()
				m = again(t, d)
				if !conf.Same(c, m.Conf()) || !slices.Equal(l, m.Legit()) || h != m.Horizon() || told != [3]api.Answer{m.Said(0), m.Said(1), m.Said(2)} {
					t.Fatal("forgotten")
				}
			}
			now := m.Conf()
			if now.Epoch != before.Epoch {
				if now.Epoch != before.Epoch+1 {
					t.Fatal("epoch")
				}
				for _, id := range m.Legit() {
					i := slices.IndexFunc(now.Members, func(x api.Member) bool { return x.Id == id })
					if conf.Place(before, now.Members[i]) < 0 || !slices.Contains(trusted, id) {
						t.Fatal("trusted", before, trusted, now, m.Legit())
					}
				}
			}
			if m.Horizon() < horizon || !slices.Contains(m.Legit(), conf.Head(now)) || d.Pending() != 0 {
				t.Fatal("goes back")
			}
			for _, p := range left {
				if p.Left > 0 && m.Horizon() > p.At {
					t.Fatal("a pin", p, m.Horizon())
				}
			}
		}
	}
}
