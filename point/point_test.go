package point

import (
	"math/rand"
	"slices"
	"strconv"
	"strings"
	"testing"

	"catena/api"
	"catena/disk"
	"catena/frame"
)

// file is the bytes of frames of texts.
func file(l ...string) string {
	s := ""
	for _, x := range l {
		f, _ := frame.Put(x)
		s += f
	}
	return s
}

func made(files map[int]string) *disk.Disk {
	d := disk.New()
	for n, s := range files {
		d.Write(n, s)
	}
	d.Sync()
	return d
}

// P13.1: a new log.
func TestNew(t *testing.T) {
	if p, e := New(nil); p != nil || e != api.ErrArg {
		t.Error("nil", e)
	}
	if p, e := New(made(map[int]string{9: ""})); p != nil || e != api.ErrFull {
		t.Error("full", e)
	}
	if p, e := New(new(disk.Disk)); p != nil || e != api.ErrZero {
		t.Error("a disk that nobody made", e)
	}
	d := disk.New()
	p, e := New(d)
	if e != api.OK || d.Data(1) != file("P\x00") || d.Pending() != 0 || len(p.Texts()) != 0 || p.Size() != len(d.Data(1)) {
		t.Errorf("%d %q", e, d.Data(1))
	}
}

// P13.1: which log is found, and what is dropped.
func TestOpen(t *testing.T) {
	for i, x := range []struct {
		files map[int]string
		e     api.Errno
		texts []string
		left  []int
	}{
		{nil, api.ErrNone, nil, nil},
		{map[int]string{1: file("P\x00")}, api.OK, nil, []int{1}},
		{map[int]string{1: file("P")}, api.ErrNone, nil, []int{1}},
		{map[int]string{1: file("P\x00\x00")}, api.ErrNone, nil, []int{1}},
		{map[int]string{1: file("P\xf8\x01")}, api.ErrNone, nil, []int{1}},
		{map[int]string{1: file("Q\x00")}, api.ErrNone, nil, []int{1}},
		{map[int]string{1: file("")}, api.ErrNone, nil, []int{1}},
		{map[int]string{1: file("P\x02", "Ta")}, api.ErrNone, nil, []int{1}},
		{map[int]string{1: file("P\xff\xff\xff\xff\xff\xff\xff\xff\xff", "Ta")}, api.ErrNone, nil, []int{1}},
		{map[int]string{5: file("P\x02", "Ta", "x", "T", "", "Tb")}, api.OK, []string{"a", "", "b"}, []int{5}},
		{map[int]string{5: file("P\x02", "Ta"), 6: file("Tb"), 8: file("Tc")}, api.OK, []string{"a", "b"}, []int{5, 6}},
		{map[int]string{1: file("P\x00"), 2: file("Ta"), 3: file("P\x01", "Tb"), 4: file("P\x02", "Tc")}, api.OK, []string{"b"}, []int{3}},
		{map[int]string{1: file("P\x00"), 2: file("Ta"), 3: file("P\x01"), 4: file("Tb") + "\x01"}, api.OK, []string{"b"}, []int{3, 4}},
		{map[int]string{1: file("P\x00"), 2: file("Ta"), 3: file("P\x02"), 4: file("Tb")}, api.OK, []string{"a"}, []int{1, 2}},
		{map[int]string{1: file("P\x00"), 2: file("Ta"), 3: file("P\x02")[:3], 4: file("Tb"), 9: "x"}, api.OK, []string{"a", "b"}, []int{1, 2, 3, 4}},
		{map[int]string{2: file("Ta"), 3: "", 4: file("P\x00") + "\x09"}, api.OK, nil, []int{4}},
		{map[int]string{1: file("P\x01"), 2: file("P\x00")[:2], 3: file("P\x01")}, api.ErrNone, nil, []int{1, 2, 3}},
	} {
		d := made(x.files)
		p, e := Open(d)
		if e != x.e || (p == nil) != (e != api.OK) || !slices.Equal(p.Texts(), x.texts) || !slices.Equal(d.Files(), x.left) {
			t.Errorf("%d: %d %q %v", i, e, p.Texts(), d.Files())
		}
	}
	if p, e := Open(nil); p != nil || e != api.ErrArg {
		t.Error("nil", e)
	}
}

// P13.2, P13.3: appending and saving.
func TestSave(t *testing.T) {
	d := disk.New()
	p, _ := New(d)
	long := strings.Repeat("x", api.MaxFrame)
	if p.Append("a") != api.OK || d.Pending() != len(file("Ta")) || p.Sync() != len(file("Ta")) {
		t.Error("append")
	}
	if p.Append(long) != api.ErrLong || p.Append(long[1:]) != api.OK {
		t.Error("long")
	}
	last := d.Files()[len(d.Files())-1]
	if p.Save([]string{"q", long}) != api.ErrLong || !slices.Equal(p.Texts(), []string{"a", long[1:]}) {
		t.Error("a save that can't be")
	}
	if p.Save([]string{"b", "c"}) != api.OK || !slices.Equal(d.Files(), []int{last + 1}) || d.Data(last+1) != file("P\x02", "Tb", "Tc") || d.Pending() != 0 {
		t.Error("save", d.Files())
	}
	if p.Append("d") != api.OK || !slices.Equal(p.Texts(), []string{"b", "c", "d"}) || p.Size() != len(file("P\x02", "Tb", "Tc", "Td")) {
		t.Error(p.Texts(), p.Size())
	}
	if p.Save(nil) != api.OK || len(p.Texts()) != 0 || !slices.Equal(d.Files(), []int{last + 2}) {
		t.Error("save of nothing")
	}
}

// P13.3: an error of a save leaves all as it was.
func TestSaveWrong(t *testing.T) {
	for _, first := range []int{api.MaxNum, api.MaxNum - 1} {
		d := made(map[int]string{first: file("P\x00", "Ta")})
		p, _ := Open(d)
		many := slices.Repeat([]string{"0123456789"}, 100)
		if e := p.Save(many); e != api.ErrArg || !slices.Equal(d.Files(), []int{first}) || !slices.Equal(p.Texts(), []string{"a"}) {
			t.Error(first, e, d.Files(), p.Texts())
		}
		if p.Append("b") != api.OK || !slices.Equal(p.Texts(), []string{"a", "b"}) {
			t.Error("goes on")
		}
	}
}

// P13.4: those that nobody made.
func TestZero(t *testing.T) {
	for _, p := range []*Point{nil, new(Point)} {
		if p.Append("a") != api.ErrZero || p.Save(nil) != api.ErrZero || p.Sync() != 0 || len(p.Texts()) != 0 || p.Size() != 0 {
			t.Error("not zero")
		}
	}
}

// torn runs appends, saves and one crash that keeps so many bytes.
func torn(r *rand.Rand, t *testing.T) {
	d := disk.New()
	p, _ := New(d)
	var all []string
	safe := 0
	for i := range 80 {
		s := strconv.Itoa(i) + strings.Repeat("y", r.Intn(40))
		switch r.Intn(9) {
		case 0:
			p.Sync()
			safe = len(all)
		case 1:
			all = all[min(len(all), r.Intn(3)):]
			if p.Save(all) != api.OK {
				t.Fatal("save")
			}
			safe = len(all)
		case 2:
			d.Crash(r.Intn(d.Pending() + 1))
			again, e := Open(d)
			if e != api.OK {
				t.Fatal(e)
			}
			l := again.Texts()
			if len(l) < safe || len(l) > len(all) || !slices.Equal(l, all[:len(l)]) {
				t.Fatalf("%q, of %q, safe %d", l, all, safe)
			}
			p, all, safe = again, l, len(l)
		default:
			if p.Append(s) != api.OK {
				t.Fatal("append")
			}
			all = append(all, s)
		}
	}
}

// P13.5: whenever a crash comes.
func TestFollows(t *testing.T) {
	r := rand.New(rand.NewSource(15))
	for range 200 {
		torn(r, t)
	}
}

// P13.5: a crash within a save leaves the old log, or the new one.
func TestCrashInSave(t *testing.T) {
	old, saved := []string{"a", "b", strings.Repeat("c", 300), "d"}, slices.Repeat([]string{"0123456789"}, 60)
	for cut := 0; ; cut++ {
		d := disk.New()
		p, _ := New(d)
		for _, s := range old {
			p.Append(s)
		}
		p.Sync()
		// The pieces that a save writes, without its making them safe.
		next := p.first + len(p.segments())
		whole := disk.New()
		begin(whole, next, saved)
		for _, n := range whole.Files() {
			d.Write(n, whole.Data(n))
		}
		most := d.Pending()
		if cut > most {
			return
		}
		d.Crash(cut)
		again, e := Open(d)
		if e != api.OK {
			t.Fatal(cut, e)
		}
		l := again.Texts()
		if cut < most && !slices.Equal(l, old) && len(l) < len(saved) || cut == most && !slices.Equal(l, saved) {
			t.Fatalf("%d of %d: %q", cut, most, l)
		}
		if again.Append("z") != api.OK || !slices.Equal(again.Texts(), append(l, "z")) {
			t.Fatal(cut, "goes on")
		}
	}
}
