package note

import (
	"math/rand"
	"reflect"
	"strings"
	"testing"

	"catena/api"
)

// full has something in every field.
func full(k int) api.Note {
	return api.Note{K: k, N: 3, At: 9, Conf: api.Conf{Epoch: 1, Members: []api.Member{{Id: 1, Serial: 1}}, Floor: 2}, Legit: []int{0, 2},
		Entry: api.Entry{Batch: api.Batch{Client: 1, Req: 2, Ops: []api.Op{{Key: "a", Val: "1"}}}, Ts: 4},
		Pin:   api.Pin{Id: 5, At: 6, Left: 7}, Said: api.Answer{Client: 2, Req: 8, E: 13, Pin: 1}}
}

var own = map[int]string{api.NConf: "Conf Legit", api.NPut: "N Entry", api.NStamp: "N At", api.NHorizon: "At N", api.NLegit: "N", api.NPin: "Pin", api.NUnpin: "N", api.NSaid: "Said"}

// P10.2: the bytes, by kind.
func TestBytes(t *testing.T) {
	for k, want := range map[int]string{
		api.NConf: "\x05\x01\x01\x01\x01\x02" + "\x02\x00\x02", api.NPut: "\x03" + "\x0a\x04\x08\x01\x02\x01\x01a\x00\x011", api.NStamp: "\x03\x09", api.NHorizon: "\x09\x03",
		api.NLegit: "\x03", api.NPin: "\x05\x06\x07", api.NUnpin: "\x03", api.NSaid: "\x02\x08\x0d\x01",
	} {
		want = string([]byte{byte(k)}) + want
		if s, e := Put(full(k)); s != want || e != api.OK {
			t.Errorf("%d: %q %d", k, s, e)
		}
		if n, e := Of(want); e != api.OK || !Same(n, Clean(full(k))) {
			t.Errorf("Of %d: %v %d", k, n, e)
		}
		for cut := range len(want) {
			if n, e := Of(want[:cut]); e == api.OK || !Same(n, api.Note{}) {
				t.Errorf("%d cut off at %d: %v %d", k, cut, n, e)
			}
		}
		last := full(k)
		last.Legit, last.Said.E = []int{0, 1, 2, 3}, api.ErrLate
		s, _ := Put(last)
		if n, e := Of(s); e != api.OK || !Same(n, Clean(last)) {
			t.Errorf("the last ones, %d: %v %d", k, n, e)
		}
		if n, e := Of(want + "\x00"); e != api.ErrForm || !Same(n, api.Note{}) {
			t.Errorf("%d with more behind: %d", k, e)
		}
	}
}

// P10.2: Clean keeps a kind's own parts alone, and shares nothing.
func TestClean(t *testing.T) {
	for k := -1; k <= 10; k++ {
		n := full(k)
		want := api.Note{}
		if names, ok := own[k]; ok {
			want.K = k
			for _, f := range strings.Fields(names) {
				reflect.ValueOf(&want).Elem().FieldByName(f).Set(reflect.ValueOf(n).FieldByName(f))
			}
		}
		if c := Clean(n); !reflect.DeepEqual(c, want) {
			t.Errorf("%d: %v", k, c)
		}
	}
	n := full(api.NPut)
	Clean(n).Entry.Batch.Ops[0].Key = "x"
	if n.Entry.Batch.Ops[0].Key != "a" {
		t.Error("shared")
	}
}

// P10.2: Same looks at all fields.
func TestSame(t *testing.T) {
	a := full(api.NPut)
	if !Same(a, full(api.NPut)) || !Same(api.Note{Legit: []int{}}, api.Note{}) {
		t.Error("the same")
	}
	for i := range reflect.TypeFor[api.Note]().NumField() {
		b := full(api.NPut)
		reflect.ValueOf(&b).Elem().Field(i).SetZero()
		if Same(a, b) || Same(b, a) {
			t.Error(reflect.TypeFor[api.Note]().Field(i).Name)
		}
	}
}

// P10.1: what is wrong, part by part.
func TestCheck(t *testing.T) {
	edit := func(k int, f func(n *api.Note)) api.Note {
		n := full(k)
		f(&n)
		return n
	}
	const over = api.MaxNum + 1
	for i, x := range []struct {
		n api.Note
		e api.Errno
	}{
		{api.Note{}, api.ErrKind}, {full(-1), api.ErrKind}, {full(9), api.ErrKind},
		{edit(api.NConf, func(n *api.Note) { n.Conf.Members = nil; n.Legit = []int{9} }), api.ErrNone}, {edit(api.NConf, func(n *api.Note) { n.Legit = nil; n.N = -1 }), api.OK},
		{edit(api.NConf, func(n *api.Note) { n.Legit = []int{0, 1, 2, 3} }), api.OK}, {edit(api.NConf, func(n *api.Note) { n.Legit = []int{0, 1, 2, 3, 9} }), api.ErrFull},
		{edit(api.NConf, func(n *api.Note) { n.Legit = []int{-1} }), api.ErrArg}, {edit(api.NConf, func(n *api.Note) { n.Legit = []int{1, 1, 4} }), api.ErrOrder}, {edit(api.NConf, func(n *api.Note) { n.Legit = []int{2, 4, 1} }), api.ErrArg},
		{edit(api.NPut, func(n *api.Note) { n.N = -1; n.Entry.Batch.Client = 9 }), api.ErrRange}, {edit(api.NPut, func(n *api.Note) { n.Entry.Batch.Client = 9 }), api.ErrArg}, {edit(api.NPut, func(n *api.Note) { n.N = api.MaxNum }), api.OK},
		{edit(api.NStamp, func(n *api.Note) { n.N = over }), api.ErrRange}, {edit(api.NHorizon, func(n *api.Note) { n.N = over }), api.ErrRange}, {edit(api.NLegit, func(n *api.Note) { n.N = -1 }), api.ErrRange}, {edit(api.NUnpin, func(n *api.Note) { n.N = -1 << 63 }), api.ErrRange},
		{edit(api.NPin, func(n *api.Note) { n.Pin.Id = -1 }), api.ErrRange}, {edit(api.NPin, func(n *api.Note) { n.Pin.Left = over }), api.ErrRange}, {edit(api.NPin, func(n *api.Note) { n.Pin = api.Pin{At: api.MaxTs}; n.N = -1 }), api.OK},
		{edit(api.NSaid, func(n *api.Note) { n.Said.Client = 3; n.Said.Req = -1 }), api.ErrArg}, {edit(api.NSaid, func(n *api.Note) { n.Said.Req = over; n.Said.E = 22 }), api.ErrRange},
		{edit(api.NSaid, func(n *api.Note) { n.Said.Pin = -1; n.Said.E = -1 }), api.ErrRange}, {edit(api.NSaid, func(n *api.Note) { n.Said.E = 22 }), api.ErrArg}, {edit(api.NSaid, func(n *api.Note) { n.Said.E = -1 }), api.ErrArg}, {edit(api.NSaid, func(n *api.Note) { n.Said = api.Answer{E: 21} }), api.OK},
	} {
		if e := Check(x.n); e != x.e {
			t.Errorf("%d: %d", i, e)
		}
		if s, e := Put(x.n); e != x.e || (e != api.OK) != (s == "") {
			t.Errorf("Put %d: %q %d", i, s, e)
		}
	}
}

// P10.2: what can't be read.
func TestOfWrong(t *testing.T) {
	for i, x := range []struct {
		s string
		e api.Errno
	}{
		{"", api.ErrShort}, {"\x00", api.ErrKind}, {"\x00\xff", api.ErrKind}, {"\x09", api.ErrRange}, {"\xf8\x00", api.ErrForm},
		{"\x01\x03\x01\x00\x00\x09", api.ErrNone}, {"\x01\x05\x01\x01\x00\x01\x00\x05", api.ErrRange}, {"\x01\x05\x01\x01\x00\x01\x00\x01\x04", api.ErrRange}, {"\x01\x05\x01\x01\x00\x01\x00\x02\x01\x01", api.ErrOrder},
		{"\x02\x00\x05\x00\x03\x03\x01\x00", api.ErrRange}, {"\x02\xfb\x40\x00\x00\x01", api.ErrRange}, {"\x02\x00\xfa\x01\x00\x01", api.ErrLong}, {"\x03\x00\xf8\x00", api.ErrForm},
		{"\x08\x03\x00\x00\x00", api.ErrRange}, {"\x08\x00\x00\x16\x00", api.ErrRange}, {"\x06\x00\x00", api.ErrShort}, {"\x07\x00\x00", api.ErrForm},
	} {
		if n, e := Of(x.s); e != x.e || !Same(n, api.Note{}) {
			t.Errorf("%d: %v %d", i, n, e)
		}
	}
}

// P10.3: what is read is put so.
func TestFollows(t *testing.T) {
	r := rand.New(rand.NewSource(12))
	read := 0
	for range 60000 {
		noise := make([]byte, 1+r.Intn(9))
		for i := range noise {
			noise[i] = byte(r.Intn(5))
		}
		noise[0] = byte(r.Intn(9))
		if n, e := Of(string(noise)); e == api.OK {
			read++
			if s, e := Put(n); e != api.OK || s != string(noise) || !Same(n, Clean(n)) {
				t.Fatalf("%q is put as %q", noise, s)
			}
		}
	}
	if read < 1000 {
		t.Error(read)
	}
}
