package lease

import (
	"slices"
	"testing"

	"catena/api"
)

func pin(id int, at uint64, left int) api.Pin { return api.Pin{Id: id, At: at, Left: left} }

// P25.1: which lists are right.
func TestRight(t *testing.T) {
	for i, x := range []struct {
		l    []api.Pin
		want bool
	}{{nil, true}, {[]api.Pin{pin(1, 0, 1), pin(5, 9, api.Lease), pin(6, 3, 2)}, true}, {[]api.Pin{pin(0, 0, 1)}, false}, {[]api.Pin{pin(2, 0, 1), pin(2, 0, 1)}, false}, {[]api.Pin{pin(2, 0, 1), pin(1, 0, 1)}, false},
		{[]api.Pin{pin(1, 0, 0)}, false}, {[]api.Pin{pin(1, 0, api.Lease+1)}, false}, {[]api.Pin{pin(1, 0, 1), pin(2, 0, 1), pin(3, 0, 1), pin(4, 0, 1)}, false}, {[]api.Pin{pin(-1, 0, 1)}, false}} {
		if Right(x.l) != x.want {
			t.Error(i)
		}
	}
}

// P25.1: granting, renewing, freeing.
func TestGrant(t *testing.T) {
	three := []api.Pin{pin(1, 5, 2), pin(3, 4, 2), pin(5, 9, 2)}
	for i, x := range []struct {
		l    []api.Pin
		id   int
		e    api.Errno
		want []api.Pin
	}{{three, 0, api.ErrPins, nil}, {three[:2], 0, api.ErrArg, nil}, {three[:2], api.MaxNum + 1, api.ErrArg, nil}, {three[:2], 3, api.ErrOrder, nil}, {three[:1], 1, api.ErrOrder, nil}, {three[:2], 4, api.OK, []api.Pin{three[0], three[1], pin(4, 7, api.Lease)}}, {nil, api.MaxNum, api.OK, []api.Pin{pin(api.MaxNum, 7, api.Lease)}}} {
		if got, e := Grant(x.l, x.id, 7); e != x.e || !slices.Equal(got, x.want) {
			t.Error(i, got, e)
		}
	}
	if three[2] != pin(5, 9, 2) {
		t.Error("shared")
	}
	for id, want := range map[int][]api.Pin{0: nil, 2: nil, 1: {pin(1, 5, api.Lease), three[1], three[2]}, 5: {three[0], three[1], pin(5, 9, api.Lease)}} {
		if got, e := Renew(three, id); !slices.Equal(got, want) || (e == api.ErrNone) != (want == nil) {
			t.Error("renew", id, got, e)
		}
	}
	for id, want := range map[int][]api.Pin{0: nil, 6: nil, 1: three[1:], 3: {three[0], three[2]}} {
		if got, e := Free(three, id); !slices.Equal(got, want) || (e == api.ErrNone) != (want == nil) {
			t.Error("free", id, got, e)
		}
	}
	twice := []api.Pin{pin(3, 1, 1), pin(3, 2, 1)}
	if got, _ := Renew(twice, 3); !slices.Equal(got, []api.Pin{pin(3, 1, api.Lease), pin(3, 2, 1)}) {
		t.Error("the first one", got)
	}
	if got, _ := Free(twice, 3); !slices.Equal(got, twice[1:]) || twice[0] != pin(3, 1, 1) {
		t.Error("the first one", got)
	}
}

// P25.2: ticks, and the least time.
func TestTick(t *testing.T) {
	l := []api.Pin{pin(1, 5, 1), pin(2, 4, 2), pin(3, 9, 0), pin(4, 9, -1<<63), pin(0, 6, 1<<62)}
	stay, gone := Tick(l)
	if !slices.Equal(stay, []api.Pin{pin(2, 4, 1), pin(0, 6, 1<<62-1)}) || !slices.Equal(gone, []int{1, 3, 4}) || l[1].Left != 2 {
		t.Error(stay, gone)
	}
	if stay, gone := Tick(nil); len(stay) != 0 || len(gone) != 0 {
		t.Error("nothing")
	}
	if at, ok := Min(l); at != 4 || !ok {
		t.Error(at)
	}
	if at, ok := Min([]api.Pin{pin(1, api.MaxTs, 1)}); at != api.MaxTs || !ok {
		t.Error(at)
	}
	if at, ok := Min(nil); at != 0 || ok {
		t.Error("nothing")
	}
}

// P25.3: a pin stays for Lease - 1 ticks, and goes with the next one.
func TestFollows(t *testing.T) {
	l, _ := Grant(nil, 1, 5)
	for again := range 3 {
		for range api.Lease - 1 {
			var gone []int
			if l, gone = Tick(l); len(gone) != 0 || len(l) != 1 || !Right(l) {
				t.Fatal(l, gone)
			}
		}
		if again < 2 {
			l, _ = Renew(l, 1)
		}
	}
	if l, gone := Tick(l); len(l) != 0 || !slices.Equal(gone, []int{1}) {
		t.Error(l, gone)
	}
}
