package mess

import (
	"math/rand"
	"reflect"
	"strings"
	"testing"

	"catena/api"
)

func one(req int) api.Entry {
	return api.Entry{Batch: api.Batch{Client: 1, Req: req, Ops: []api.Op{{Key: "a", Val: "1"}}}, Ts: uint64(req)}
}

// full has something in every field.
func full(k int) api.Msg {
	return api.Msg{K: k, Epoch: 1, Req: 2, Serial: 3, Flag: true, At: 4, Last: 5, N: 6, M: 7, P: 8, E: 9, Key: "k", To: "t",
		Conf:  api.Conf{Epoch: 1, Members: []api.Member{{Id: 1, Serial: 1}}, Floor: 2},
		Batch: api.Batch{Client: 1, Req: 1, Ops: []api.Op{{Key: "b", Val: "2"}}}, Entries: []api.Entry{one(1), one(2)}, Stamps: []uint64{9, 300}, Pairs: []api.Pair{{Key: "p", Val: "v"}}}
}

// own tells which fields a kind has.
var own = map[int]string{
	api.MConf: "Conf At", api.MBeat: "Epoch Serial Flag At Last", api.MFwd: "Epoch N M P Req At Entries", api.MAck: "Epoch N M P Stamps", api.MWrite: "Epoch Batch", api.MDone: "Req At", api.MNo: "Req E Epoch N",
	api.MGet: "Req Key At", api.MScan: "Req Key To At N", api.MRows: "Req Key At Flag Pairs", api.MPin: "Req At", api.MRenew: "Req N", api.MUnpin: "Req N", api.MPinned: "Req N", api.MWhere: "",
}

// P9.2: the bytes, by kind.
func TestBytes(t *testing.T) {
	c, b := "\x05\x01\x01\x01\x01\x02", "\x08\x01\x01\x01\x01b\x00\x012"
	e := func(req string) string { return "\x0a" + req + "\x08\x01" + req + "\x01\x01a\x00\x011" }
	for k, want := range map[int]string{
		api.MConf: c + "\x04", api.MBeat: "\x01\x03\x01\x04\x05", api.MFwd: "\x01\x06\x07\x08\x02\x04\x02" + e("\x01") + e("\x02"), api.MAck: "\x01\x06\x07\x08\x02\x09\xf9\x01\x2c",
		api.MWrite: "\x01" + b, api.MDone: "\x02\x04", api.MNo: "\x02\x09\x01\x06", api.MGet: "\x02\x01k\x04", api.MScan: "\x02\x01k\x01t\x04\x06", api.MRows: "\x02\x01k\x04\x01\x01\x01p\x01v",
		api.MPin: "\x02\x04", api.MRenew: "\x02\x06", api.MUnpin: "\x02\x06", api.MPinned: "\x02\x06", api.MWhere: "",
	} {
		want = string([]byte{byte(k)}) + want
		if s, e := Put(full(k)); s != want || e != api.OK {
			t.Errorf("%d: %q %d", k, s, e)
		}
		m, e := Of(want)
		if e != api.OK || !Same(m, Clean(full(k))) {
			t.Errorf("Of %d: %v %d", k, m, e)
		}
		for cut := range len(want) {
			if m, e := Of(want[:cut]); e == api.OK || !Same(m, api.Msg{}) {
				t.Errorf("%d cut off at %d: %v %d", k, cut, m, e)
			}
		}
		last := full(k)
		last.E, last.At = api.ErrLate, api.MaxTs
		if s, _ := Put(last); s != "" {
			if m, e := Of(s); e != api.OK || !Same(m, Clean(last)) {
				t.Errorf("the last ones, %d: %v %d", k, m, e)
			}
		}
		if m, e := Of(want + "\x00"); e != api.ErrForm || !Same(m, api.Msg{}) {
			t.Errorf("%d with more behind: %d", k, e)
		}
	}
}

// P9.2: Clean keeps a kind's own parts alone, and shares nothing.
func TestClean(t *testing.T) {
	for k := -1; k <= 17; k++ {
		m := full(k)
		want := api.Msg{}
		if names, ok := own[k]; ok {
			want.K = k
			for _, f := range strings.Fields(names) {
				reflect.ValueOf(&want).Elem().FieldByName(f).Set(reflect.ValueOf(m).FieldByName(f))
			}
		}
		c := Clean(m)
		if !reflect.DeepEqual(c, want) && !Same(c, want) {
			t.Errorf("%d: %v", k, c)
		}
		if k == api.MFwd {
			c.Entries[0].Batch.Ops[0].Key = "zz"
			if m.Entries[0].Batch.Ops[0].Key != "a" {
				t.Error("shared")
			}
		}
	}
}

// P9.2: Same looks at all fields.
func TestSame(t *testing.T) {
	a := full(api.MFwd)
	if !Same(a, full(api.MFwd)) || !Same(api.Msg{Stamps: []uint64{}, Entries: []api.Entry{}}, api.Msg{}) {
		t.Error("the same")
	}
	for i := range reflect.TypeFor[api.Msg]().NumField() {
		b := full(api.MFwd)
		reflect.ValueOf(&b).Elem().Field(i).SetZero()
		if Same(a, b) || Same(b, a) {
			t.Error(reflect.TypeFor[api.Msg]().Field(i).Name)
		}
	}
}

// P9.1: what is wrong, part by part in their order.
func TestCheck(t *testing.T) {
	long := "123456789"
	edit := func(k int, f func(m *api.Msg)) api.Msg {
		m := full(k)
		f(&m)
		return m
	}
	for i, x := range []struct {
		m api.Msg
		e api.Errno
	}{
		{api.Msg{K: api.MFwd}, api.OK}, {api.Msg{K: api.MBeat}, api.OK}, {edit(api.MScan, func(m *api.Msg) { m.Key, m.To = long[:8], long[:8] }), api.OK}, {edit(api.MRows, func(m *api.Msg) { m.Pairs[0] = api.Pair{Key: long[:8], Val: long[:8]} }), api.OK},
		{api.Msg{}, api.ErrKind}, {full(-1), api.ErrKind}, {full(16), api.ErrKind}, {full(1 << 40), api.ErrKind},
		{edit(api.MConf, func(m *api.Msg) { m.Conf.Epoch = 0 }), api.ErrRange}, {edit(api.MConf, func(m *api.Msg) { m.Epoch = -1 }), api.OK},
		{edit(api.MBeat, func(m *api.Msg) { m.Epoch = -1 }), api.ErrRange}, {edit(api.MBeat, func(m *api.Msg) { m.Serial = api.MaxNum + 1 }), api.ErrRange}, {edit(api.MBeat, func(m *api.Msg) { m.Serial = api.MaxNum }), api.OK},
		{edit(api.MFwd, func(m *api.Msg) { m.P = -1; m.Entries = make([]api.Entry, 9) }), api.ErrRange}, {edit(api.MFwd, func(m *api.Msg) { m.Entries = make([]api.Entry, 5) }), api.ErrFull},
		{edit(api.MFwd, func(m *api.Msg) { m.Entries[1].Batch.Req = 0 }), api.ErrRange}, {edit(api.MFwd, func(m *api.Msg) { m.Entries[1].Batch.Client = 3 }), api.ErrArg},
		{edit(api.MFwd, func(m *api.Msg) { m.M = -1 << 63 }), api.ErrRange}, {edit(api.MFwd, func(m *api.Msg) { m.Entries = []api.Entry{one(1), one(1), one(2), one(9)} }), api.OK},
		{edit(api.MAck, func(m *api.Msg) { m.Stamps = make([]uint64, 8) }), api.OK}, {edit(api.MAck, func(m *api.Msg) { m.Stamps = make([]uint64, 9) }), api.ErrFull}, {edit(api.MAck, func(m *api.Msg) { m.Req = -1 }), api.OK},
		{edit(api.MWrite, func(m *api.Msg) { m.Batch.Ops[0].Key = "" }), api.ErrKey},
		{edit(api.MNo, func(m *api.Msg) { m.E = 22 }), api.ErrArg}, {edit(api.MNo, func(m *api.Msg) { m.E = -1; m.Epoch = -1 }), api.ErrArg}, {edit(api.MNo, func(m *api.Msg) { m.E = 22; m.Req = -1 }), api.ErrRange}, {edit(api.MNo, func(m *api.Msg) { m.E = 21 }), api.OK}, {edit(api.MNo, func(m *api.Msg) { m.N = api.MaxNum + 1 }), api.ErrRange},
		{edit(api.MGet, func(m *api.Msg) { m.Key = long }), api.ErrLong}, {edit(api.MGet, func(m *api.Msg) { m.Key, m.To = "", long }), api.OK},
		{edit(api.MScan, func(m *api.Msg) { m.To = long }), api.ErrLong}, {edit(api.MScan, func(m *api.Msg) { m.To = long; m.Req = -1 }), api.ErrRange}, {edit(api.MScan, func(m *api.Msg) { m.To = long; m.N = -1 }), api.ErrLong},
		{edit(api.MRows, func(m *api.Msg) { m.Pairs = make([]api.Pair, 33) }), api.ErrFull}, {edit(api.MRows, func(m *api.Msg) { m.Pairs = append(m.Pairs, api.Pair{Val: long}) }), api.ErrKey}, {edit(api.MRows, func(m *api.Msg) { m.Pairs[0].Val = long }), api.ErrLong},
		{edit(api.MWhere, func(m *api.Msg) { m.Req = -1 }), api.OK},
	} {
		if e := Check(x.m); e != x.e {
			t.Errorf("%d: %d", i, e)
		}
		if s, e := Put(x.m); e != x.e || (e != api.OK) != (s == "") {
			t.Errorf("Put %d: %q %d", i, s, e)
		}
	}
}

// P9.2: what can't be read.
func TestOfWrong(t *testing.T) {
	for i, x := range []struct {
		s string
		e api.Errno
	}{
		{"", api.ErrShort}, {"\x00", api.ErrKind}, {"\x00\xf8\x01", api.ErrKind}, {"\x10", api.ErrRange}, {"\xf8\x01", api.ErrForm},
		{"\x01\x02\x00\x01", api.ErrShort}, {"\x01\x03\x00\x00\x00", api.ErrRange}, {"\x01\x03\x01\x00\x00", api.ErrNone}, {"\x01\xfa\x01\x00\x01", api.ErrLong},
		{"\x02\x01\x01\x02", api.ErrForm}, {"\x02\xfb\x40\x00\x00\x01", api.ErrRange},
		{"\x03\x00\x00\x00\x00\x00\x00\x05", api.ErrRange}, {"\x03\x00\x00\x00\x00\x00\x00\x02\x05\x05\x03\x00\x00\x00\x00", api.ErrRange}, {"\x03\x00\x00\x00\x00\x00\x00\x01\x02\x05\x03", api.ErrShort},
		{"\x04\x00\x00\x00\x00\x09", api.ErrRange}, {"\x05\x00\x03\x03\x01\x00", api.ErrRange}, {"\x05\x00\x03\x00\x01\x00\x07", api.ErrForm}, {"\x07\x00\x16\x00\x00", api.ErrRange},
		{"\x08\x01\x09123456789\x00", api.ErrLong}, {"\x09\x01\x00\x09123456789\x00", api.ErrLong}, {"\x0a\x01\x00\x00\x00\x21", api.ErrRange},
		{"\x0a\x01\x00\x00\x00\x01\x00\x00", api.ErrKey}, {"\x0a\x01\x00\x00\x00\x01\x01a\x09", api.ErrLong}, {"\x0a\x01\x00\x00\x02", api.ErrForm}, {"\x0a\x01\x00\x00\x00\x01\x00\x00\x00", api.ErrForm},
	} {
		if m, e := Of(x.s); e != x.e || !Same(m, api.Msg{}) {
			t.Errorf("%d: %v %d", i, m, e)
		}
	}
}

// P9.3: what is read is put so.
func TestFollows(t *testing.T) {
	r := rand.New(rand.NewSource(11))
	read := 0
	for range 60000 {
		noise := make([]byte, 1+r.Intn(12))
		for i := range noise {
			noise[i] = byte(r.Intn(4))
		}
		noise[0] = byte(r.Intn(16))
		if m, e := Of(string(noise)); e == api.OK {
			read++
			if s, e := Put(m); e != api.OK || s != string(noise) || !Same(m, Clean(m)) {
				t.Fatalf("%q is put as %q", noise, s)
			}
		}
	}
	if read < 1000 {
		t.Error(read)
	}
}
