package tests

import (
	"math"
	"math/rand"
	"slices"
	"testing"

	"loop.example/g00222/impl"
)

func TestCountOfAnyTable(t *testing.T) {
	table := []int64{0, 5, 0, 9, 5, 5, -3, math.MaxInt64, math.MinInt64, 0, 0}
	known := map[int64]int64{0: 4, 5: 3, 9: 1, -3: 1, math.MaxInt64: 1, math.MinInt64: 1, 4: 0, 1: 0, -5: 0}
	for name, want := range known {
		if got := impl.CountOf(table, name); got != want {
			t.Errorf("CountOf %d = %d, want %d", name, got, want)
		}
	}
	for _, name := range append([]int64{5}, notNames()...) {
		if impl.CountOf(nil, name) != 0 || impl.CountOf([]int64{}, name) != 0 {
			t.Errorf("%d has places in an empty table", name)
		}
	}
	if impl.CountOf(tableOf(7), 7) != 31 || impl.CountOf(slices.Repeat([]int64{7}, 500), 7) != 500 || impl.CountOf([]int64{7}, 7) != 1 {
		t.Error("what is of one alone is not counted whole")
	}
}

func TestSpreadOfKnownTables(t *testing.T) {
	mixed := slices.Concat(slices.Repeat([]int64{5}, 12), slices.Repeat([]int64{9}, 8), slices.Repeat([]int64{77}, 4), make([]int64, 7))
	known := []struct {
		table []int64
		list  []impl.Share
		want  impl.Spread
	}{
		{impl.FillTable(sharesOf(5, 1, 9, 1)).List, sharesOf(5, 1, 9, 1), impl.Spread{Least: 15, Most: 16}},
		{mixed, sharesOf(5, 1, 9, 1), impl.Spread{Least: 8, Most: 12, Empty: 7}},
		{mixed, sharesOf(5, 1, 9, 1, 77, 9), impl.Spread{Least: 4, Most: 12, Empty: 7}},
		{mixed, sharesOf(5, 1, 9, 1, 77, 0), impl.Spread{Least: 8, Most: 12, Empty: 7}},
		{mixed, sharesOf(5, 0, 9, 1, 77, 1), impl.Spread{Least: 4, Most: 8, Empty: 7}},
		{mixed, sharesOf(9, 2), impl.Spread{Least: 8, Most: 8, Empty: 7}},
		{mixed, sharesOf(9, 2, 999, 0), impl.Spread{Least: 8, Most: 8, Empty: 7}},
		{mixed, sharesOf(9, 2, 999, 1), impl.Spread{Least: 0, Most: 8, Empty: 7}},
		{mixed, sharesOf(1, 1, 9, 2), impl.Spread{Least: 0, Most: 8, Empty: 7}},
		{mixed, sharesOf(1, 1), impl.Spread{Empty: 7}},
		{mixed, sharesOf(5, 0, 9, 0), impl.Spread{Empty: 7}},
		{mixed, nil, impl.Spread{Empty: 7}},
		{tableOf(0), nil, impl.Spread{Empty: 31}},
		{tableOf(0), sharesOf(5, 1), impl.Spread{Empty: 31}},
		{tableOf(5), sharesOf(5, 9), impl.Spread{Least: 31, Most: 31}},
		{tableOf(-5), sharesOf(5, 9), impl.Spread{}},
		{
			impl.FillTable(sharesOf(1, 9, 2, 9, 3, 9, 4, 9, 5, 9)).List, sharesOf(1, 9, 2, 9, 3, 9, 4, 9, 5, 9),
			impl.Spread{Least: 0, Most: 9},
		},
	}
	for _, one := range known {
		if got := impl.SpreadOf(one.table, one.list); got != one.want {
			t.Errorf("SpreadOf(%v, %v) = %v, want %v", one.table, one.list, got, one.want)
		}
	}
}

func TestSpreadOfFilledTables(t *testing.T) {
	for _, list := range manyShares(500) {
		var counts []int64
		for _, share := range list {
			if share.Weight > 0 {
				counts = append(counts, wantCounts(list)[share.Name])
			}
		}
		want := impl.Spread{Empty: 31}
		if len(counts) > 0 {
			slices.Sort(counts)
			want = impl.Spread{Least: counts[0], Most: counts[len(counts)-1]}
		}
		if got := impl.SpreadOf(impl.FillTable(list).List, list); got != want {
			t.Errorf("SpreadOf the table of %v = %v, want %v", list, got, want)
		}
	}
}

func TestSpreadOfAsksInOrder(t *testing.T) {
	for _, table := range badTables() {
		for _, list := range append(manyShares(0), sharesOf(0, 0), make([]impl.Share, 9), sharesOf(5, 1, 5, 1)) {
			if got := impl.SpreadOf(table, list); got != (impl.Spread{Code: impl.ErrForm}) {
				t.Errorf("SpreadOf a table of %d places and %v = %v, want ErrForm and nothing else", len(table), list, got)
			}
		}
	}
	for code, lists := range badShares() {
		for _, list := range lists {
			if got := impl.SpreadOf(tableOf(5), list); got != (impl.Spread{Code: code}) {
				t.Errorf("SpreadOf with %v = %v, want %d and nothing else", list, got, code)
			}
		}
	}
}

// countedTable has 1 at its first place, 2 at the next one, and so on.
func countedTable() []int64 {
	var table []int64
	for place := range int64(31) {
		table = append(table, place+1)
	}
	return table
}

func TestLookTableTellsTheNameAtThePlace(t *testing.T) {
	known := map[int64]int64{
		0: 1, 1: 2, 30: 31, 31: 1, 32: 2, 61: 31, 62: 1, 77: 16, 1000002: 5, 1 << 32: 5, math.MaxInt64: 8, math.MaxInt64 - 7: 1, math.MaxInt64 - 8: 31,
	}
	for hash, want := range known {
		if got := impl.LookTable(countedTable(), hash); got != (impl.IntResult{Value: want}) {
			t.Errorf("LookTable %d = %v, want %d", hash, got, want)
		}
	}
	for hash := range int64(500) {
		if got := impl.LookTable(countedTable(), hash); got != (impl.IntResult{Value: hash%31 + 1}) {
			t.Errorf("LookTable %d = %v", hash, got)
		}
	}
	if got := impl.LookTable(tableOf(-5), 3); got != (impl.IntResult{Value: -5}) {
		t.Errorf("a place of -5 is told as %v", got)
	}
}

func TestLookTableWherePlacesAreNobodys(t *testing.T) {
	table := countedTable()
	table[0], table[30] = 0, 0
	for hash, want := range map[int64]int64{0: 0, 30: 0, 31: 0, 61: 0, 1: 2, 29: 30, 32: 2, math.MaxInt64 - 7: 0} {
		expect := impl.IntResult{Value: want}
		if want == 0 {
			expect = impl.IntResult{Code: impl.ErrNone}
		}
		if got := impl.LookTable(table, hash); got != expect {
			t.Errorf("LookTable %d = %v, want %v", hash, got, expect)
		}
	}
}

func TestLookTableAsksInOrder(t *testing.T) {
	for _, table := range append(badTables(), make([]int64, 30), make([]int64, 32)) {
		for _, hash := range append([]int64{0, 5, 30, 31}, farNumbers...) {
			if got := impl.LookTable(table, hash); got != (impl.IntResult{Code: impl.ErrForm}) {
				t.Errorf("LookTable of %d places at %d = %v, want ErrForm and nothing else", len(table), hash, got)
			}
		}
	}
	for _, far := range farNumbers {
		want := impl.IntResult{Code: impl.ErrRange}
		if far >= 0 {
			want = impl.IntResult{Value: 5}
		}
		if got := impl.LookTable(tableOf(5), far); got != want {
			t.Errorf("LookTable at %d = %v, want %v", far, got, want)
		}
		if far < 0 && impl.LookTable(tableOf(0), far) != want {
			t.Errorf("of nobody's places %d is not told to be below 0", far)
		}
	}
}

func TestWhatIsLookedUpIsAShareWithAWeight(t *testing.T) {
	random := rand.New(rand.NewSource(5))
	for _, list := range manyShares(300) {
		weights, any := map[int64]int64{}, false
		for _, share := range list {
			weights[share.Name] = share.Weight
			any = any || share.Weight > 0
		}
		table := impl.FillTable(list).List
		for hash := range int64(62) {
			for _, at := range []int64{hash, random.Int63()} {
				got := impl.LookTable(table, at)
				if any && (got.Code != impl.OK || weights[got.Value] == 0) || !any && got != (impl.IntResult{Code: impl.ErrNone}) {
					t.Errorf("of %v the hash %d goes to %v", list, at, got)
				}
			}
		}
	}
}

func TestWhoIsGoneGetsNothing(t *testing.T) {
	for _, list := range manyShares(200) {
		for _, share := range list {
			table := impl.FillTable(impl.WithoutShare(list, share.Name).Shares).List
			if impl.CountOf(table, share.Name) != 0 || len(table) != 31 {
				t.Errorf("%d is gone from %v and has places in %v", share.Name, list, table)
			}
			for hash := range int64(31) {
				if got := impl.LookTable(table, hash); got.Value == share.Name {
					t.Errorf("%d is gone from %v and gets the hash %d", share.Name, list, hash)
				}
			}
		}
	}
}

func TestWhoHasNoWeightIsAsIfGone(t *testing.T) {
	for _, list := range manyShares(200) {
		want := impl.FillTable(list).List
		for _, share := range list {
			if share.Weight == 0 && !slices.Equal(impl.FillTable(impl.WithoutShare(list, share.Name).Shares).List, want) {
				t.Errorf("%d has no weight in %v, but its going turns the table", share.Name, list)
			}
		}
	}
}

func TestMovedOfTwoTables(t *testing.T) {
	plain := countedTable()
	if got := impl.MovedOf(plain, countedTable()); got != (impl.IntResult{}) {
		t.Errorf("between two that are the same %v moved", got)
	}
	if got := impl.MovedOf(plain, tableOf(0)); got != (impl.IntResult{Value: 31}) {
		t.Errorf("between all and nobody's %v moved", got)
	}
	turned := countedTable()
	for place := range turned {
		turned[place] = -turned[place]
		want := impl.IntResult{Value: int64(place) + 1}
		if a, b := impl.MovedOf(plain, turned), impl.MovedOf(turned, plain); a != want || b != want {
			t.Errorf("%d places are turned, but %v and %v moved", place+1, a, b)
		}
	}
	one := countedTable()
	for place := range one {
		one[place]++
		if got := impl.MovedOf(one, plain); got != (impl.IntResult{Value: 1}) {
			t.Errorf("the place %d is turned, but %v moved", place, got)
		}
		one[place]--
	}
}

func TestMovedOfWhatIsNoTable(t *testing.T) {
	for _, bad := range badTables() {
		for _, other := range append(badTables(), tableOf(5)) {
			want := impl.IntResult{Code: impl.ErrForm}
			if a, b := impl.MovedOf(bad, other), impl.MovedOf(other, bad); a != want || b != want {
				t.Errorf("MovedOf of %d and %d places = %v and %v, want ErrForm", len(bad), len(other), a, b)
			}
		}
		if got := impl.MovedOf(bad, bad); got != (impl.IntResult{Code: impl.ErrForm}) {
			t.Errorf("MovedOf of %d places and the same = %v, want ErrForm", len(bad), got)
		}
	}
}
