package fresh

import (
	"reflect"
	"testing"

	"catena/api"
)

// P4: a copy is the same, and shares nothing.
func TestShared(t *testing.T) {
	op := func() []api.Op { return []api.Op{{Key: "a", Val: "1"}} }
	l := []api.Entry{{Batch: api.Batch{Client: 1, Req: 2, Ops: op()}, Ts: 3}, {Ts: 4}}
	c := Entries(l)
	if !reflect.DeepEqual(l, c) {
		t.Error(c)
	}
	l[0].Batch.Ops[0].Val, l[1].Ts = "x", 9
	if c[0].Batch.Ops[0].Val != "1" || c[1].Ts != 4 {
		t.Error("entries share")
	}
	f := api.Conf{Epoch: 1, Members: []api.Member{{Id: 1, Serial: 2}}, Floor: 3}
	g := Conf(f)
	f.Members[0].Id = 3
	if g.Epoch != 1 || g.Floor != 3 || g.Members[0] != (api.Member{Id: 1, Serial: 2}) {
		t.Error("configurations share")
	}
	d := []api.Deed{{Client: 1, Ask: api.Ask{Ops: op()}, Reply: api.Reply{At: 5, Pairs: []api.Pair{{Key: "a"}}}}}
	e := Deeds(d)
	d[0].Ask.Ops[0].Val, d[0].Reply.Pairs[0].Key = "x", "x"
	if e[0].Client != 1 || e[0].Ask.Ops[0].Val != "1" || e[0].Reply.Pairs[0].Key != "a" || e[0].Reply.At != 5 {
		t.Error("deeds share")
	}
}
