package replica

import (
	"testing"

	"catena/api"
	"catena/disk"
	"catena/link"
	"catena/mess"
)

// peer is another replica, as far as its session goes.
type peer struct {
	id, seq, heard int
}

// tells lets a message come from a peer, which has heard all that it was told.
func (p *peer) tells(t *testing.T, r *Replica, x api.Msg) []api.Out {
	t.Helper()
	body, e := mess.Put(x)
	if e != api.OK {
		t.Fatal(e)
	}
	g, _ := link.Put(api.Seg{Boot: 1, Stream: 1, Seq: p.seq, AckBoot: 1, AckStream: 1, AckSeq: p.heard, Has: true, Body: body})
	p.seq++
	return r.Deliver(p.id, "S"+g)
}

// hears answers the messages that go to a peer for the first time.
func (p *peer) hears(t *testing.T, out []api.Out) []api.Msg {
	t.Helper()
	var l []api.Msg
	for _, o := range out {
		if o.To != p.id || o.Body[0] != 'S' {
			continue
		}
		g, e := link.Of(o.Body[1:])
		if e != api.OK {
			t.Fatal(e)
		}
		if g.Has && g.Seq == p.heard {
			x, e := mess.Of(g.Body)
			if e != api.OK {
				t.Fatal(e)
			}
			p.heard++
			l = append(l, x)
		}
	}
	return l
}

// hear tells whether a peer hears just these for the first time.
func (p *peer) hear(t *testing.T, out []api.Out, want ...api.Msg) {
	t.Helper()
	got := p.hears(t, out)
	if len(got) != len(want) {
		t.Errorf("%d hears %v, not %v", p.id, got, want)
		return
	}
	for i := range got {
		if !mess.Same(got[i], want[i]) {
			t.Errorf("%d hears %v, not %v", p.id, got, want)
		}
	}
}

func fwd(epoch, base, from, stamps, stable int, at uint64, l ...api.Entry) api.Msg {
	return api.Msg{K: api.MFwd, Epoch: epoch, N: base, M: from, P: stamps, Req: stable, At: at, Entries: l}
}

func ack(epoch, good, held, from int, l ...uint64) api.Msg {
	return api.Msg{K: api.MAck, Epoch: epoch, N: good, M: held, P: from, Stamps: l}
}

func entry(req int, ts uint64) api.Entry { return api.Entry{Batch: batch(0, req), Ts: ts} }

// P33.2 to P33.5: word by word, of one in the middle.
func TestMiddle(t *testing.T) {
	d := disk.New()
	r := start(t, 1, d)
	head, tail := &peer{id: 0}, &peer{id: 2}
	out := r.Deliver(api.Master, where(chain(1, 0, 0, 1, 2), 0))
	head.hear(t, out)
	tail.hear(t, out)
	tail.hear(t, r.Tick())
	out = head.tells(t, r, fwd(1, 2, 0, 0, 0, 0, entry(1, 0), entry(2, 0)))
	head.hear(t, out, ack(1, 2, 0, 0))
	tail.hear(t, out, fwd(1, 2, 0, 0, 0, 0, entry(1, 0), entry(2, 0)))
	if !r.Ready() || r.Good() != 2 || d.Pending() != 0 {
		t.Error("adopted")
	}
	out = tail.tells(t, r, ack(1, 2, 2, 0, 5, 6))
	head.hear(t, out, ack(1, 2, 2, 0, 5, 6))
	tail.hear(t, out)
	if r.Stable() != 0 || len(r.Entries()) != 2 || r.Entries()[1].Ts != 6 {
		t.Error("learnt", r.Entries())
	}
	out = tail.tells(t, r, ack(1, 2, 2, 0, 5, 6)) // nothing new
	head.hear(t, out)
	tail.hear(t, out)
	out = head.tells(t, r, ack(1, 1, 1, 0, 9)) // such a word comes from behind alone
	head.hear(t, out)
	tail.hear(t, out)
	out = tail.tells(t, r, fwd(1, 3, 2, 2, 2, 0, entry(3, 0))) // and such a one from ahead
	head.hear(t, out)
	tail.hear(t, out)
	out = head.tells(t, r, fwd(1, 2, 2, 2, 1, 4))
	head.hear(t, out, ack(1, 2, 2, 2))
	tail.hear(t, out)
	if r.Stable() != 1 || r.Mark() != 5 || r.Horizon() != 4 {
		t.Error("stable", r.Stable(), r.Horizon())
	}
	out = r.Tick()
	head.hear(t, out)
	tail.hear(t, out, fwd(1, 2, 2, 2, 1, 4))
	if m := msgs(t, out)[api.Master]; len(m) != 1 || !mess.Same(m[0], api.Msg{K: api.MBeat, Epoch: 1, Serial: 1, Flag: true, At: 5, Last: 6}) {
		t.Error("beat", m)
	}
	tail.hear(t, r.Tick()) // one waits already
	out = tail.tells(t, r, ack(1, 1, 1, 2))
	head.hear(t, out)
	tail.hear(t, out, fwd(1, 2, 1, 2, 1, 4, entry(2, 6)))
	out = head.tells(t, r, fwd(1, 2, 2, 2, 2, 0, entry(3, 0)))
	head.hear(t, out, ack(1, 3, 2, 2))
	tail.hear(t, out, fwd(1, 2, 1, 2, 2, 4, entry(2, 6), entry(3, 0)))
	out = tail.tells(t, r, ack(1, 3, 3, 2)) // held, though no timestamp of it is known
	head.hear(t, out, ack(1, 3, 2, 2))
	tail.hear(t, out)
	out = tail.tells(t, r, ack(1, 3, 99, 2, 9)) // no more is held than is good
	head.hear(t, out, ack(1, 3, 3, 2, 9))
	out = r.Deliver(api.Master, where(chain(1, 0, 1, 0, 2), 0)) // an epoch that is known
	if r.Good() != 3 || r.Stable() != 2 {
		t.Error("begun anew")
	}
	r.Deliver(api.Master, where(chain(2, 0, 0, 1, 2), 0))
	if r.Good() != 0 || r.Stable() != 2 || r.Ready() {
		t.Error("not begun anew")
	}
	out = head.tells(t, r, fwd(2, 3, 0, 3, 2, 0, entry(1, 5)))
	head.hear(t, out, ack(2, 1, 0, 1))
	tail.hear(t, out, fwd(2, 3, 0, 1, 2, 4, entry(1, 5)))
}

// P33.3, P33.4: word by word, of the head.
func TestHead(t *testing.T) {
	r := start(t, 0, disk.New())
	tail := &peer{id: 1}
	tail.hear(t, r.Deliver(api.Master, where(chain(1, 0, 0, 1), 0)), fwd(1, 0, 0, 0, 0, 0))
	tail.hear(t, r.Deliver(5, write(1, batch(0, 1))), fwd(1, 0, 0, 0, 0, 0, entry(1, 0)))
	if len(msgs(t, r.Deliver(5, write(1, batch(0, 1))))) != 0 {
		t.Error("what waits is not answered")
	}
	out := tail.tells(t, r, ack(1, 1, 1, 0, 7))
	tail.hear(t, out)
	if m := msgs(t, out)[5]; len(m) != 1 || !mess.Same(m[0], api.Msg{K: api.MDone, Req: 1, At: 7}) || r.Stable() != 1 {
		t.Error("done", m)
	}
	tail.hear(t, r.Deliver(5, write(1, batch(0, 2))), fwd(1, 0, 1, 1, 1, 0, entry(2, 0)))
	tail.hear(t, tail.tells(t, r, ack(1, 1, 1, 1)), fwd(1, 0, 1, 1, 1, 0, entry(2, 0)))
	if m := msgs(t, tail.tells(t, r, ack(1, 2, 2, 1))); len(m) != 0 || r.Stable() != 1 {
		t.Error("held, and no timestamp known", m)
	}
	// The tail hears nothing more: four words wait, and no more.
	tail.tells(t, r, ack(1, 2, 2, 1))
	heard := 0
	for i := range 6 {
		heard += len(tail.hears(t, r.Deliver(5, write(1, batch(0, i+3)))))
	}
	if heard != room {
		t.Error(heard)
	}
	for range 3 {
		tail.hear(t, r.Tick())
	}
	tail.hear(t, tail.tells(t, r, ack(1, 2, 2, 1)), fwd(1, 0, 2, 1, 1, 0, entry(3, 0), entry(4, 0), entry(5, 0), entry(6, 0)))
}

// P33.4: word by word, of the tail: it stamps, and answers back, as long as few words wait.
func TestTail(t *testing.T) {
	r := start(t, 1, disk.New())
	head := &peer{id: 0}
	r.Deliver(api.Master, where(chain(1, 8, 0, 1), 0))
	head.hear(t, head.tells(t, r, fwd(1, 0, 0, 0, 0, 0, entry(1, 0), entry(2, 0))), ack(1, 2, 2, 0, 8, 9))
	if r.Stable() != 0 {
		t.Error("stable")
	}
	head.hear(t, head.tells(t, r, fwd(1, 0, 2, 1, 9, 0)), ack(1, 2, 2, 1, 9))
	if r.Stable() != 2 || r.Mark() != 9 {
		t.Error("stable", r.Stable())
	}
	heard := 0
	stuck := head.heard // the head's word of what it heard does not come any more
	for range 6 {
		body, _ := mess.Put(fwd(1, 0, 2, 2, 2, 0))
		g, _ := link.Put(api.Seg{Boot: 1, Stream: 1, Seq: head.seq, AckBoot: 1, AckStream: 1, AckSeq: stuck, Has: true, Body: body})
		head.seq++
		heard += len(head.hears(t, r.Deliver(0, "S"+g)))
	}
	if heard != room {
		t.Error(heard)
	}
	g, _ := link.Put(api.Seg{Boot: 1, Stream: 1, Seq: head.seq, AckBoot: 1, AckStream: 1, AckSeq: head.heard})
	head.hear(t, r.Deliver(0, "S"+g)) // no more than that waited
}

// P33.2: who becomes the only member stamps, and answers, at once.
func TestLeft(t *testing.T) {
	r := start(t, 0, disk.New())
	r.Deliver(api.Master, where(chain(1, 8, 0, 1), 0))
	r.Deliver(6, write(1, batch(1, 3)))
	m := msgs(t, r.Deliver(api.Master, where(chain(2, 9, 0), 0)))
	if len(m[6]) != 1 || !mess.Same(m[6][0], api.Msg{K: api.MDone, Req: 3, At: 9}) || r.Stable() != 1 {
		t.Error(m)
	}
}

// P33.1: a number that is none does not touch the disk; P33.2: a node that is no client is told nothing.
func TestNobody(t *testing.T) {
	d := disk.New()
	for _, id := range []int{-1, api.MaxReplicas} {
		Start(id, d)
	}
	if len(d.Files()) != 0 {
		t.Error(d.Files())
	}
	r, _ := alone(t, 0)
	if out := r.Deliver(8, bytes(api.Msg{K: api.MGet, Req: 1, Key: "a"})); len(out) != 0 {
		t.Error(out)
	}
}
