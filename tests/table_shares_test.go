package tests

import (
	"slices"
	"testing"

	"loop.example/g00222/impl"
)

func TestSharesWithoutAFault(t *testing.T) {
	for _, list := range manyShares(500) {
		if got := impl.SharesFault(list); got != impl.OK {
			t.Errorf("SharesFault(%v) = %d, want 0", list, got)
		}
	}
	for weight := range int64(10) {
		for _, name := range []int64{1, 2, 500, 998, 999} {
			if got := impl.SharesFault(sharesOf(name, weight)); got != impl.OK {
				t.Errorf("SharesFault of %d with weight %d = %d, want 0", name, weight, got)
			}
		}
	}
}

func TestSharesWithAFault(t *testing.T) {
	for code, lists := range badShares() {
		for _, list := range lists {
			if got := impl.SharesFault(list); got != code {
				t.Errorf("SharesFault(%v) = %d, want %d", list, got, code)
			}
		}
	}
}

func TestBoundsOfSharesAtEachPlace(t *testing.T) {
	plain := sharesOf(10, 1, 20, 2, 30, 3, 40, 4, 50, 5, 60, 6, 70, 7, 80, 8)
	for i := range plain {
		for _, weight := range []int64{-1, 10} {
			list := slices.Clone(plain)
			list[i].Weight = weight
			if got := impl.SharesFault(list); got != impl.ErrRange {
				t.Errorf("SharesFault(%v) = %d, want ErrRange", list, got)
			}
		}
		if i == 0 {
			continue
		}
		for _, name := range []int64{plain[i-1].Name, plain[i-1].Name - 1} {
			list := slices.Clone(plain)
			list[i].Name = name
			if got := impl.SharesFault(list); got != impl.ErrForm {
				t.Errorf("SharesFault(%v) = %d, want ErrForm", list, got)
			}
		}
		list := slices.Clone(plain)
		list[i].Name = plain[i-1].Name + 1
		if got := impl.SharesFault(list); got != impl.OK {
			t.Errorf("SharesFault(%v) = %d, want 0", list, got)
		}
	}
}

func TestWithoutShareLeavesTheOthersInTheirOrder(t *testing.T) {
	known := []struct {
		list []impl.Share
		name int64
		want []impl.Share
	}{
		{sharesOf(5, 1, 9, 1), 5, sharesOf(9, 1)},
		{sharesOf(5, 1, 9, 1), 9, sharesOf(5, 1)},
		{sharesOf(5, 0), 5, nil},
		{sharesOf(1, 0, 500, 7, 999, 9), 500, sharesOf(1, 0, 999, 9)},
		{sharesOf(1, 0, 500, 7, 999, 9), 1, sharesOf(500, 7, 999, 9)},
		{sharesOf(1, 1, 2, 2, 3, 3, 4, 4, 5, 5, 6, 6, 7, 7, 8, 8), 8, sharesOf(1, 1, 2, 2, 3, 3, 4, 4, 5, 5, 6, 6, 7, 7)},
	}
	for _, one := range known {
		if got := impl.WithoutShare(one.list, one.name); got.Code != impl.OK || !slices.Equal(got.Shares, one.want) {
			t.Errorf("WithoutShare(%v, %d) = %v, want %v", one.list, one.name, got, one.want)
		}
	}
	for _, list := range manyShares(300) {
		for i, share := range list {
			want := append(slices.Clone(list[:i]), list[i+1:]...)
			if got := impl.WithoutShare(list, share.Name); got.Code != impl.OK || !slices.Equal(got.Shares, want) {
				t.Errorf("WithoutShare(%v, %d) = %v, want %v", list, share.Name, got, want)
			}
		}
	}
}

func TestWithoutShareOfWhoIsNotThere(t *testing.T) {
	lists := [][]impl.Share{nil, {}, sharesOf(5, 1, 9, 1), sharesOf(1, 0, 999, 9)}
	for _, list := range lists {
		for _, name := range append([]int64{2, 4, 6, 8, 10, 998}, notNames()...) {
			if got := impl.WithoutShare(list, name); got.Code != impl.ErrNone || len(got.Shares) != 0 {
				t.Errorf("WithoutShare(%v, %d) = %v, want ErrNone and nothing else", list, name, got)
			}
		}
	}
}

func TestWithoutShareAsksForTheFaultFirst(t *testing.T) {
	for code, lists := range badShares() {
		for _, list := range lists {
			for _, name := range []int64{list[0].Name, 5, 777, 0, -1} {
				if got := impl.WithoutShare(list, name); got.Code != code || len(got.Shares) != 0 {
					t.Errorf("WithoutShare(%v, %d) = %v, want %d and nothing else", list, name, got, code)
				}
			}
		}
	}
}
