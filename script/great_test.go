package script_test

import (
	"math/rand"
	"os"
	"slices"
	"strconv"
	"testing"

	"catena/api"
	"catena/cluster"
	"catena/fair"
	"catena/judge"
	"catena/script"
	"catena/story"
)

// kinds are mixes of steps, by how often each kind of event comes.
var kinds = [][]int{
	{8, 40, 60, 2, 2, 0, 0, 0, 0, 0},
	{8, 40, 60, 6, 6, 2, 3, 0, 1, 1},
	{10, 40, 60, 2, 2, 1, 2, 1, 2, 1},
	{20, 40, 40, 20, 10, 4, 8, 0, 2, 2},
	{5, 60, 60, 1, 1, 3, 6, 2, 3, 1},
	{10, 60, 50, 5, 20, 1, 2, 0, 0, 0},
	{10, 20, 80, 0, 0, 0, 1, 0, 1, 1},
	{20, 50, 30, 3, 3, 1, 3, 0, 4, 3},
	{15, 70, 20, 1, 5, 2, 4, 0, 5, 4},
}

// ask is something that a client may be asked to do.
func ask(r *rand.Rand, c *cluster.Cluster) api.Ask {
	key := func() string { return "abcde"[r.Intn(5):][:1] }
	at := c.Mark(r.Intn(4)) - uint64(r.Intn(8)) + uint64(r.Intn(3))
	switch r.Intn(10) {
	case 0:
		return api.Ask{K: api.AGet, Node: r.Intn(4), Key: key(), At: at}
	case 1:
		return api.Ask{K: api.AScan, Node: r.Intn(4), N: 1 + r.Intn(6), At: at}
	case 2, 3:
		return api.Ask{K: api.ALatest, Node: r.Intn(4), Key: key()}
	case 4:
		return api.Ask{K: api.APin + r.Intn(3), At: c.Horizon(api.Master) + uint64(r.Intn(4)) - uint64(r.Intn(2)), N: r.Intn(4)}
	}
	a := api.Ask{K: api.AWrite}
	for range r.Intn(4) {
		o := api.Op{Key: key(), Del: r.Intn(3) == 0}
		if !o.Del {
			o.Val = strconv.Itoa(r.Intn(100))
		}
		a.Ops = append(a.Ops, o)
	}
	return a
}

// step is some step of a mix.
func step(r *rand.Rand, c *cluster.Cluster, mix []int) api.Event {
	all := 0
	for _, n := range mix {
		all += n
	}
	at := r.Intn(all)
	k := 0
	for at >= mix[k] {
		at -= mix[k]
		k++
	}
	e := api.Event{K: k, Node: r.Intn(api.MaxNodes), N: r.Intn(100) * r.Intn(2)}
	switch k {
	case api.EvAsk:
		e.Node, e.Ask = r.Intn(3), ask(r, c)
	case api.EvCrash, api.EvStart:
		e.Node = r.Intn(5)
	case api.EvErase, api.EvJoin, api.EvRemove:
		e.Node = r.Intn(4)
	}
	return e
}

// seen is what was seen of a cluster so far.
type seen struct {
	t        *testing.T
	seed     int64
	c        *cluster.Cluster
	s        *story.Story
	conf     api.Conf
	legit    []int
	horizons [api.MaxReplicas + 1]uint64
	serials  [api.MaxReplicas]int
}

func (x *seen) fail(l ...any) {
	x.t.Helper()
	x.t.Fatal(append([]any{"seed", x.seed, "step", x.c.Time()}, l...)...)
}

// look holds what is to be seen now against what was seen.
func (x *seen) look() {
	c := x.c
	if e := x.s.See(c); e != api.OK {
		x.fail("E1: two lists", e)
	}
	if now := c.Conf(); now.Epoch > 0 {
		if x.conf.Epoch > 0 && now.Epoch != x.conf.Epoch {
			if e := judge.Follows(x.conf, now, x.legit); e != api.OK {
				x.fail("E3: the head", x.conf, now, e)
			}
		}
		x.conf, x.legit = now, c.Legit()
	}
	for i := range x.horizons {
		if i < api.MaxReplicas && c.Serial(i) != x.serials[i] {
			x.serials[i], x.horizons[i] = c.Serial(i), 0
		}
		if c.Up(i) {
			if c.Horizon(i) < x.horizons[i] {
				x.fail("E4: a horizon goes back")
			}
			x.horizons[i] = c.Horizon(i)
		}
	}
	if id, e := judge.Pinned(c); e != api.OK {
		x.fail("E4: a pin", id, e)
	}
	if id, e := judge.Trusted(c, x.s.List()); e != api.OK {
		x.fail("E3: lost", id, e)
	}
}

// judged looks at all that clients were told.
func (x *seen) judged() {
	d := x.c.Deeds()
	w, e := story.Fill(x.s.List(), d)
	if e != api.OK {
		x.fail("E1: nobody asked for it", e)
	}
	if at, e := judge.Reads(w, d); e != api.OK {
		x.fail("E1: reads", d[at], e)
	}
	if at, e := judge.Writes(w, d); e != api.OK {
		x.fail("E1: writes", d[at], e)
	}
	if at, e := judge.Times(d); e != api.OK {
		x.fail("E2: times", d[at], e)
	}
}

// play runs one random script, and then lets all settle; it answers what it came to.
func play(t *testing.T, seed int64, steps int) *cluster.Cluster {
	r := rand.New(rand.NewSource(seed))
	floor := uint64(0)
	if r.Intn(4) == 0 {
		floor = -uint64(1 + r.Intn(12))
	}
	n := 1 + r.Intn(4)
	c, _ := cluster.New(n, floor)
	x := &seen{t: t, seed: seed, c: c, s: story.New()}
	mix := kinds[r.Intn(len(kinds))]
	var events []api.Event
	erased := false
	for range steps {
		if r.Intn(200) == 0 {
			mix = kinds[r.Intn(len(kinds))]
		}
		e := step(r, c, mix)
		events = append(events, script.Clean(e))
		if c.Step(e) == api.OK && e.K == api.EvErase {
			erased = true
		}
		x.look()
	}
	x.judged()
	fair.Wake(c)
	bound := fair.Bound(c)
	for rounds := 0; !fair.Settled(c); rounds++ {
		if rounds >= bound {
			if erased {
				break
			}
			x.fail("E5: does not settle", c.Conf(), c.Legit())
		}
		fair.Round(c)
		x.look()
	}
	x.judged()
	if fair.Settled(c) {
		for _, m := range c.Conf().Members {
			if c.Mark(m.Id) != x.s.Last() {
				x.fail("E5: mark", m, c.Mark(m.Id), x.s.Last())
			}
		}
		for _, d := range c.Deeds() {
			if d.End == 0 {
				x.fail("E5: not answered", d)
			}
		}
	}
	again(x, n, floor, events)
	return c
}

// again plays the same steps from bytes: the same comes of it.
func again(x *seen, n int, floor uint64, events []api.Event) {
	s, e := script.Put(events)
	if e != api.OK {
		x.fail("a script", e)
	}
	c, _ := cluster.New(n, floor)
	script.Play(c, s, len(events))
	d, f := c.Deeds(), x.c.Deeds()
	if len(d) != len(f) || !slices.EqualFunc(d, f, func(a, b api.Deed) bool {
		return a.Begin == b.Begin && a.Client == b.Client && a.Req == b.Req && (a.End == 0 || a.End == b.End && a.Reply.At == b.Reply.At)
	}) {
		x.fail("not the same")
	}
}

// setting answers a number that the environment may set, for longer runs.
func setting(name string, usual int) int {
	if n, e := strconv.Atoi(os.Getenv(name)); e == nil {
		return n
	}
	return usual
}

// E1 to E5, whatever steps there are.
func TestGreat(t *testing.T) {
	seeds, steps := setting("GREAT", 60), setting("GREATSTEPS", 600)
	from := setting("GREATFROM", 0)
	all := map[string]int{}
	for i := range seeds {
		for what, n := range happened(play(t, int64(from+i), steps)) {
			all[what] += n
		}
	}
	// Who does nothing breaks no promise: all of this is to happen, too.
	for _, what := range []string{"written", "read", "found", "latest", "pinned", "epochs", "horizon", "too new", "too old", "the end", "late"} {
		if all[what] < seeds/40 {
			t.Error("too few:", what, all[what])
		}
	}
}

// happened counts what came of a cluster's deeds.
func happened(c *cluster.Cluster) map[string]int {
	n := map[string]int{"epochs": c.Conf().Epoch - 1}
	if c.Horizon(api.Master) > 0 {
		n["horizon"]++
	}
	for _, d := range c.Deeds() {
		switch {
		case d.End == 0:
		case d.Reply.E != api.OK:
			n[map[api.Errno]string{api.ErrTooNew: "too new", api.ErrPruned: "too old", api.ErrEnd: "the end", api.ErrLate: "late"}[d.Reply.E]]++
		case d.Ask.K == api.AWrite:
			n["written"]++
		case d.Ask.K >= api.APin:
			n["pinned"]++
		default:
			n["read"]++
			if len(d.Reply.Pairs) > 0 {
				n["found"]++
			}
			if d.Ask.K == api.ALatest {
				n["latest"]++
			}
		}
	}
	return n
}

// E1 to E4, of whatever bytes.
func TestBytes(t *testing.T) {
	r := rand.New(rand.NewSource(99))
	for i := range 60 {
		c, _ := cluster.New(1+r.Intn(4), r.Uint64()>>r.Intn(64))
		x := &seen{t: t, seed: int64(i), c: c, s: story.New()}
		b := make([]byte, 3000)
		for k := range b {
			b[k] = byte(r.Intn(8))
			if r.Intn(30) == 0 {
				b[k] = byte(r.Intn(256))
			}
		}
		for _, e := range script.Of(string(b)) {
			c.Step(e)
			x.look()
		}
		x.judged()
	}
}
