package bound

import (
	"testing"

	"catena/api"
)

// P20.1: the mark.
func TestMark(t *testing.T) {
	l := []api.Entry{{Ts: 3}, {Ts: 5}, {}, {Ts: 9}}
	for stable, want := range map[int]uint64{-1 << 63: 0, -1: 0, 0: 0, 1: 3, 2: 5, 3: 5, 4: 5, 1<<63 - 1: 5} {
		if got := Mark(l, stable); got != want {
			t.Error(stable, got)
		}
	}
	if Mark(nil, 5) != 0 || Mark(l[2:], 5) != 0 {
		t.Error("nothing")
	}
}

// P20.1: what may be asked.
func TestCheck(t *testing.T) {
	for _, x := range []struct {
		t, mark, horizon uint64
		want             api.Errno
	}{{5, 4, 0, api.ErrTooNew}, {3, 4, 4, api.ErrPruned}, {4, 4, 4, api.OK}, {4, 5, 3, api.OK}, {5, 4, 9, api.ErrTooNew}, {4, 4, 9, api.ErrPruned}, {0, 0, 0, api.OK}, {api.MaxTs, api.MaxTs, api.MaxTs, api.OK}, {api.MaxTs, api.MaxTs - 1, 0, api.ErrTooNew}, {0, 0, 1, api.ErrPruned}} {
		if got := Check(x.t, x.mark, x.horizon); got != x.want {
			t.Error(x, got)
		}
	}
	for _, x := range []struct {
		mark, horizon, want uint64
		e                   api.Errno
	}{{5, 3, 5, api.OK}, {5, 5, 5, api.OK}, {5, 6, 0, api.ErrPruned}, {0, 0, 0, api.OK}, {api.MaxTs, 0, api.MaxTs, api.OK}} {
		if got, e := Latest(x.mark, x.horizon); got != x.want || e != x.e {
			t.Error(x, got, e)
		}
	}
}

// P20.2: a later mark, an earlier horizon refuse nothing more.
func TestFollows(t *testing.T) {
	for at := uint64(0); at < 6; at++ {
		for mark := uint64(0); mark < 6; mark++ {
			for horizon := uint64(1); horizon < 6; horizon++ {
				if Check(at, mark, horizon) == api.OK && (Check(at, mark+1, horizon) != api.OK || Check(at, mark, horizon-1) != api.OK) {
					t.Error(at, mark, horizon)
				}
			}
		}
	}
}
