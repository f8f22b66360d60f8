// Package every calls all that the document lists, at whatever arguments: what holds everywhere.
package every

import (
	"fmt"
	"math/rand"
	"reflect"
	"strings"
	"testing"
	"time"

	"catena/adopt"
	"catena/agree"
	"catena/api"
	"catena/asks"
	"catena/bound"
	"catena/client"
	"catena/cluster"
	"catena/conf"
	"catena/disk"
	"catena/ether"
	"catena/fair"
	"catena/frame"
	"catena/hub"
	"catena/item"
	"catena/judge"
	"catena/keys"
	"catena/lease"
	"catena/link"
	"catena/master"
	"catena/mess"
	"catena/mstate"
	"catena/mvcc"
	"catena/note"
	"catena/ops"
	"catena/plan"
	"catena/point"
	"catena/relay"
	"catena/replica"
	"catena/rlog"
	"catena/rstate"
	"catena/script"
	"catena/serve"
	"catena/stamp"
	"catena/story"
	"catena/sum"
	"catena/tree"
	"catena/varnum"
	"catena/vers"
	"catena/wal"
	"catena/watch"
	"catena/wire"
)

// calls are the functions of all layers, but those of objects, and fair.Run (it runs as long as it is told to).
var calls = []any{
	varnum.Put, varnum.Len, varnum.Get, varnum.All, wire.New, wire.Open, sum.Sum, sum.New, frame.Put, frame.Next, frame.All, keys.Check, keys.In, keys.Next, keys.Sorted, keys.Set,
	ops.Check, ops.Put, ops.Of, ops.Same, ops.Norm, ops.Over, conf.Check, conf.Put, conf.Of, conf.Same, conf.Place, conf.Ahead, conf.Behind, conf.Head, conf.Tail,
	item.Check, item.Put, item.Of, item.Same, item.Twins, item.Right, item.Stamped, item.Last, mess.Check, mess.Put, mess.Of, mess.Clean, mess.Same, note.Check, note.Put, note.Of, note.Clean, note.Same,
	disk.New, wal.Open, wal.Read, point.New, point.Open, vers.Right, vers.Put, vers.At, vers.Prune, tree.New[int], mvcc.New, rlog.New, adopt.One, adopt.Take, adopt.Base, stamp.Next, stamp.All, stamp.Ended, bound.Mark, bound.Check, bound.Latest,
	ether.New, link.Put, link.Of, link.New, hub.New, watch.New, lease.Right, lease.Grant, lease.Renew, lease.Free, lease.Tick, lease.Min, agree.Least, agree.Horizon, plan.Next, plan.Floor, mstate.New, master.New, master.Open, rstate.New,
	serve.At, serve.No, serve.Get, serve.Scan, serve.Answer, relay.Fwd, relay.Ack, relay.Learn, relay.Held, relay.Good, replica.Start, asks.New, client.New, cluster.New, story.Add, story.Holds, story.Fill, story.New,
	judge.State, judge.Rows, judge.Reads, judge.Writes, judge.Times, judge.Trusted, judge.Pinned, judge.Follows, fair.Wake, fair.Round, fair.Settled, fair.Bound, script.Put, script.Of, script.Clean, script.Play,
}

// maker makes values of whatever type.
type maker struct {
	*rand.Rand
	// objects that calls answered, by their types
	objects map[reflect.Type][]reflect.Value
	within  bool // a text that is being made is of something else that has texts
}

var ints = []int{-1 << 63, -1 << 31, -2, -1, 0, 0, 1, 1, 2, 3, 4, 5, 6, 7, 8, 9, 31, 32, 33, 100, 255, api.MaxFrame, api.MaxNum, api.MaxNum + 1, 1 << 40, 1<<63 - 2, 1<<63 - 1}

func (m *maker) text() string {
	b := make([]byte, m.Intn(12))
	for i := range b {
		b[i] = "\x00\x01\x02\x03\x04\x05\x06MSPTa\xf7\xf8\xff"[m.Intn(15)]
	}
	s := string(b)
	if m.within {
		return s
	}
	m.within = true
	defer func() { m.within = false }()
	switch m.Intn(12) {
	case 0:
		return strings.Repeat(s, 9000)
	case 1, 2:
		x, _ := mess.Put(m.value(reflect.TypeFor[api.Msg]()).Interface().(api.Msg))
		return "M" + x
	case 3:
		x, _ := note.Put(m.value(reflect.TypeFor[api.Note]()).Interface().(api.Note))
		return x
	}
	return s
}

// value makes a value of a type.
func (m *maker) value(t reflect.Type) reflect.Value {
	v := reflect.New(t).Elem()
	switch t.Kind() {
	case reflect.Int:
		n := ints[m.Intn(len(ints))]
		if m.Intn(2) == 0 {
			n = m.Intn(5)
		}
		v.SetInt(int64(n))
	case reflect.Uint64:
		v.SetUint(m.Uint64() >> m.Intn(64) * uint64(m.Intn(2)))
		if m.Intn(9) == 0 {
			v.SetUint(-uint64(m.Intn(3)))
		}
	case reflect.Uint32:
		v.SetUint(uint64(m.Uint32()))
	case reflect.Bool:
		v.SetBool(m.Intn(2) == 0)
	case reflect.String:
		v.SetString(m.text())
	case reflect.Slice:
		for range m.Intn(4) * m.Intn(3) {
			v.Set(reflect.Append(v, m.value(t.Elem())))
		}
	case reflect.Struct:
		for i := range t.NumField() {
			if t.Field(i).IsExported() {
				v.Field(i).Set(m.value(t.Field(i).Type))
			}
		}
	case reflect.Pointer:
		if l := m.objects[t]; len(l) > 0 && m.Intn(8) > 0 {
			return l[m.Intn(len(l))]
		}
		if m.Intn(2) == 0 {
			v.Set(reflect.New(t.Elem()))
		}
	}
	return v
}

// call calls f, and keeps the objects that it answers.
func (m *maker) call(t *testing.T, name string, f reflect.Value) {
	var in []reflect.Value
	for i := range f.Type().NumIn() {
		in = append(in, m.value(f.Type().In(i)))
	}
	defer func() {
		if x := recover(); x != nil {
			t.Fatalf("%s panics: %v", name, x)
		}
	}()
	begin := time.Now()
	before := describe(in)
	answers := f.Call(in)
	if describe(in) != before {
		t.Fatalf("%s changes what is handed in", name)
	}
	if given, own := spans(in), spans(answers); overlap(own, given) || overlap(own, nil) {
		t.Fatalf("%s answers memory of an argument, or shares some within", name)
	}
	for _, v := range answers {
		if v.Kind() == reflect.Pointer {
			l := append(m.objects[v.Type()], v)
			if len(l) > 4 {
				l = l[m.Intn(2):][:4]
			}
			m.objects[v.Type()] = l
		}
	}
	if took := time.Since(begin); took > 20*time.Second {
		t.Fatal(name, "takes", took)
	}
}

// describe writes down all values, but for objects.
func describe(l []reflect.Value) string {
	s := ""
	for _, v := range l {
		if v.Kind() != reflect.Pointer {
			s += fmt.Sprintf("%#v\n", v.Interface())
		}
	}
	return s
}

// span is the memory of a list.
type span struct{ from, to uintptr }

// spans answers the memory of all lists in some values, but for those of objects.
func spans(l []reflect.Value) []span {
	var all []span
	for _, v := range l {
		switch v.Kind() {
		case reflect.Slice:
			if size := uintptr(v.Cap()) * v.Type().Elem().Size(); size > 0 {
				all = append(all, span{v.Pointer(), v.Pointer() + size})
			}
			for i := range v.Len() {
				all = append(all, spans([]reflect.Value{v.Index(i)})...)
			}
		case reflect.Struct:
			for i := range v.NumField() {
				all = append(all, spans([]reflect.Value{v.Field(i)})...)
			}
		}
	}
	return all
}

// overlap tells whether two spans share memory: of l, or one of l and one of m.
func overlap(l, m []span) bool {
	for i, x := range l {
		for k, y := range append(append([]span{}, l...), m...) {
			if i != k && x.from < y.to && y.from < x.to {
				return true
			}
		}
	}
	return false
}

// P1, P4: every call ends, and none panics, at all arguments, and at objects that no call made.
func TestEvery(t *testing.T) {
	m := &maker{Rand: rand.New(rand.NewSource(37)), objects: map[reflect.Type][]reflect.Value{}}
	for range 40 {
		for _, f := range calls {
			v := reflect.ValueOf(f)
			m.call(t, v.Type().String(), v)
			for i := range v.Type().NumOut() {
				o := v.Type().Out(i)
				if o.Kind() != reflect.Pointer {
					continue
				}
				for range 8 {
					x := m.value(o)
					k := m.Intn(o.NumMethod())
					m.call(t, o.String()+"."+o.Method(k).Name, x.Method(k))
				}
			}
		}
	}
}
