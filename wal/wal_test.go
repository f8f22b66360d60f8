package wal

import (
	"math/rand"
	"slices"
	"strconv"
	"strings"
	"testing"

	"catena/api"
	"catena/disk"
	"catena/frame"
)

func put(s string) string {
	f, _ := frame.Put(s)
	return f
}

// P12.1: what can't be opened.
func TestOpenWrong(t *testing.T) {
	d := disk.New()
	d.Write(1, put("a"))
	for _, n := range []int{0, -1, api.MaxNum + 1, -1 << 63} {
		w, l, e := Open(d, n)
		texts, at := Read(d, n)
		if w != nil || len(l) != 0 || e != api.ErrArg || len(texts) != 0 || at != n {
			t.Error(n, w, l, e, texts, at)
		}
	}
	if w, l, e := Open(nil, 1); w != nil || len(l) != 0 || e != api.ErrArg {
		t.Error("nil disk", e)
	}
	if l, at := Read(nil, 7); len(l) != 0 || at != 7 {
		t.Error("nil disk", l, at)
	}
	if w, l, e := Open(new(disk.Disk), 3); e != api.OK || len(l) != 0 || w.Last() != 3 || w.Append("a") != api.ErrZero {
		t.Error("a disk that nobody made", e)
	}
}

// P12.1, P12.2: which texts a log has, and where one writes on.
func TestSegments(t *testing.T) {
	for i, x := range []struct {
		files map[int]string
		first int
		texts []string
		last  int
	}{
		{nil, 4, nil, 4},
		{map[int]string{1: put("a")}, 1, []string{"a"}, 1},
		{map[int]string{1: put("a")}, 2, nil, 2},
		{map[int]string{1: put("a"), 2: put("b") + put("c")}, 1, []string{"a", "b", "c"}, 2},
		{map[int]string{1: put("a"), 2: put("b")}, 2, []string{"b"}, 2},
		{map[int]string{1: put("a"), 3: put("b")}, 1, []string{"a"}, 1},
		{map[int]string{1: put("a") + "\x01", 2: put("b")}, 1, []string{"a", "b"}, 2},
		{map[int]string{1: put("a"), 2: put("b") + "\x05x"}, 1, []string{"a", "b"}, 3},
		{map[int]string{1: put("a"), 2: "\x05x" + put("b")}, 1, []string{"a"}, 3},
		{map[int]string{1: put("a"), 2: ""}, 1, []string{"a"}, 2},
		{map[int]string{7: put(strings.Repeat("y", 249))}, 7, []string{strings.Repeat("y", 249)}, 7},
		{map[int]string{7: put(strings.Repeat("y", 250))}, 7, []string{strings.Repeat("y", 250)}, 8},
		{map[int]string{api.MaxNum: put("a")}, api.MaxNum, []string{"a"}, api.MaxNum},
	} {
		d := disk.New()
		for f, s := range x.files {
			d.Write(f, s)
		}
		w, l, e := Open(d, x.first)
		if e != api.OK || !slices.Equal(l, x.texts) || w.Last() != x.last {
			t.Errorf("%d: %q %d %d", i, l, w.Last(), e)
		}
		if l, at := Read(d, x.first); !slices.Equal(l, x.texts) || at != x.last {
			t.Errorf("Read %d: %q %d", i, l, at)
		}
		if w.Append("new") != api.OK || !strings.HasSuffix(d.Data(x.last), put("new")) {
			t.Errorf("Append %d", i)
		}
		if l, _ := Read(d, x.first); !slices.Equal(l, append(x.texts, "new")) {
			t.Errorf("%d behind: %q", i, l)
		}
	}
}

// P12.2: what can't be appended.
func TestAppendWrong(t *testing.T) {
	d := disk.New()
	w, _, _ := Open(d, api.MaxNum)
	if w.Append(strings.Repeat("x", api.MaxFrame+1)) != api.ErrLong || len(d.Files()) != 0 {
		t.Error("too long")
	}
	if w.Append(strings.Repeat("x", api.MaxFrame)) != api.OK || w.Append("a") != api.ErrArg || w.Last() != api.MaxNum+1 {
		t.Error("behind the last number")
	}
}

// P12.3: those that nobody made.
func TestZero(t *testing.T) {
	for _, w := range []*Wal{nil, new(Wal)} {
		if w.Append("a") != api.ErrZero || w.Last() != 0 {
			t.Error("not zero")
		}
	}
}

// P12.4: what is safe is read behind any crash, and behind it a beginning of the rest, in order.
func TestFollows(t *testing.T) {
	r := rand.New(rand.NewSource(14))
	for range 200 {
		d := disk.New()
		w, _, _ := Open(d, 3)
		var all []string
		safe := 0
		for i := range 150 {
			s := strconv.Itoa(i) + strings.Repeat("z", r.Intn(30))
			if w.Append(s) != api.OK {
				t.Fatal("append")
			}
			all = append(all, s)
			switch r.Intn(20) {
			case 0:
				d.Sync()
				safe = len(all)
			case 1:
				d.Crash(r.Intn(d.Pending() + 1))
				again, l, _ := Open(d, 3)
				if len(l) < safe || len(l) > len(all) || !slices.Equal(l, all[:len(l)]) {
					t.Fatalf("%q, of %q, safe %d", l, all, safe)
				}
				w, all, safe = again, l, len(l)
			}
		}
		if l, at := Read(d, 3); !slices.Equal(l, all) || at < 5 || at != w.Last() {
			t.Fatal("in the end", at)
		}
	}
}
