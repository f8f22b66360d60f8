package plan

import (
	"math/rand"
	"slices"
	"testing"

	"catena/api"
	"catena/conf"
)

func m(id, serial int) api.Member { return api.Member{Id: id, Serial: serial} }

func of(epoch int, l ...api.Member) api.Conf { return api.Conf{Epoch: epoch, Members: l, Floor: 4} }

// P27.1: the floor.
func TestFloor(t *testing.T) {
	for _, x := range [][3]uint64{{0, 0, 1}, {5, 3, 5}, {5, 4, 5}, {5, 5, 6}, {0, api.MaxTs, api.MaxTs}, {api.MaxTs, 0, api.MaxTs}, {3, api.MaxTs - 1, api.MaxTs}} {
		if got := Floor(x[0], x[1]); got != x[2] {
			t.Error(x, got)
		}
	}
}

// P27.2: the next configuration.
func TestNext(t *testing.T) {
	c := of(7, m(0, 1), m(1, 2), m(2, 3))
	for i, x := range []struct {
		c           api.Conf
		legit, gone []int
		joins       []api.Member
		want        []api.Member
		trusted     []int
		e           api.Errno
	}{
		{c, []int{1, 2}, []int{1}, []api.Member{m(3, 1)}, []api.Member{m(2, 3), m(0, 1), m(3, 1)}, []int{2}, api.OK},
		{of(0, m(0, 1)), nil, nil, nil, nil, nil, api.ErrRange}, {of(7), nil, nil, nil, nil, nil, api.ErrNone}, {of(7, m(9, 1)), nil, nil, nil, nil, nil, api.ErrArg},
		{c, nil, nil, nil, nil, nil, api.ErrNone}, {c, []int{1}, []int{1}, []api.Member{m(3, 1)}, nil, nil, api.ErrNone}, {c, []int{3}, nil, []api.Member{m(3, 1)}, nil, nil, api.ErrNone},
		{c, []int{0, 1, 2}, nil, nil, nil, nil, api.ErrBusy}, {c, []int{0}, []int{3}, []api.Member{m(3, 0), m(4, 1), m(-1, 1), m(3, api.MaxSerial+1), m(0, 5)}, nil, nil, api.ErrBusy},
		{of(api.MaxEpoch, c.Members...), []int{0, 1, 2}, nil, nil, nil, nil, api.ErrBusy}, {of(api.MaxEpoch, c.Members...), []int{2}, nil, nil, nil, nil, api.ErrRange}, {of(api.MaxEpoch, c.Members...), nil, nil, nil, nil, nil, api.ErrNone},
		{of(api.MaxEpoch-1, c.Members...), []int{2}, nil, nil, []api.Member{m(2, 3), m(0, 1), m(1, 2)}, []int{2}, api.OK},
		{c, []int{2, 1, 2}, nil, nil, []api.Member{m(1, 2), m(2, 3), m(0, 1)}, []int{1, 2}, api.OK},
		{of(7, m(2, 3), m(0, 1)), []int{2, 0}, nil, []api.Member{m(3, 9), m(3, 8), m(1, 4)}, []api.Member{m(2, 3), m(0, 1), m(3, 9), m(1, 4)}, []int{0, 2}, api.OK},
		{c, []int{0, 1, 2}, []int{1}, []api.Member{m(1, 5)}, []api.Member{m(0, 1), m(2, 3), m(1, 5)}, []int{0, 2}, api.OK},
		{of(7, m(0, 1), m(1, 1), m(2, 1), m(3, 1)), []int{0}, []int{3}, []api.Member{m(3, 2), m(3, 3)}, []api.Member{m(0, 1), m(1, 1), m(2, 1), m(3, 2)}, []int{0}, api.OK},
	} {
		got, trusted, e := Next(x.c, x.legit, x.gone, x.joins, 8)
		want := api.Conf{}
		if x.e == api.OK {
			want = api.Conf{Epoch: x.c.Epoch + 1, Members: x.want, Floor: 9}
		}
		if e != x.e || !conf.Same(got, want) || !slices.Equal(trusted, x.trusted) {
			t.Errorf("%d: %v %v %d", i, got, trusted, e)
		}
	}
}

// P27.3: what comes next may be; its head, and all trusted ones, were members, and trusted; who is gone does not stay.
func TestFollows(t *testing.T) {
	r := rand.New(rand.NewSource(26))
	some := func() (l []int) {
		for range r.Intn(4) {
			l = append(l, r.Intn(5))
		}
		return l
	}
	found := 0
	for range 20000 {
		c := api.Conf{Epoch: 1 + r.Intn(3), Floor: uint64(r.Intn(9))}
		for _, id := range r.Perm(4)[:1+r.Intn(4)] {
			c.Members = append(c.Members, m(id, 1+r.Intn(2)))
		}
		legit, gone := some(), some()
		var joins []api.Member
		for range r.Intn(3) {
			joins = append(joins, m(r.Intn(5), 3+r.Intn(2)))
		}
		n, trusted, e := Next(c, legit, gone, joins, uint64(r.Intn(9)))
		if e != api.OK {
			continue
		}
		found++
		if conf.Check(n) != api.OK || n.Epoch != c.Epoch+1 || n.Floor < c.Floor || !slices.Contains(trusted, conf.Head(n)) || !slices.IsSorted(trusted) {
			t.Fatal(c, n, trusted)
		}
		for _, x := range n.Members {
			old := conf.Place(c, x) >= 0
			if slices.Contains(trusted, x.Id) != (old && slices.Contains(legit, x.Id)) || old && slices.Contains(gone, x.Id) {
				t.Fatal(c, legit, gone, n, trusted)
			}
		}
	}
	if found < 5000 {
		t.Error(found)
	}
}
