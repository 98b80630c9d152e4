package tests

import (
	"slices"
	"testing"

	"loop.example/g00222/impl"
)

func TestTablesOfKnownShares(t *testing.T) {
	known := []struct {
		list []impl.Share
		want []int64
	}{
		{sharesOf(5, 1, 9, 1), []int64{5, 9, 9, 9, 5, 5, 5, 5, 9, 9, 9, 9, 9, 9, 5, 5, 9, 9, 9, 5, 9, 5, 9, 5, 9, 5, 5, 5, 5, 5, 5}},
		{sharesOf(5, 1, 9, 9), []int64{5, 9, 9, 9, 5, 9, 9, 9, 9, 9, 9, 9, 9, 9, 5, 5, 9, 9, 9, 9, 9, 9, 9, 9, 9, 9, 9, 9, 9, 9, 9}},
		{sharesOf(5, 9, 9, 1), []int64{5, 5, 5, 9, 5, 5, 5, 5, 9, 5, 5, 5, 5, 5, 5, 5, 5, 5, 5, 5, 5, 5, 5, 5, 9, 5, 5, 5, 5, 5, 5}},
		{sharesOf(1, 9, 999, 1), []int64{1, 1, 1, 1, 1, 1, 1, 1, 1, 1, 1, 999, 999, 1, 1, 1, 1, 1, 1, 1, 1, 1, 1, 1, 1, 1, 999, 1, 1, 1, 1}},
		{sharesOf(1, 1, 5, 0, 9, 3), []int64{9, 9, 9, 9, 9, 1, 9, 9, 9, 9, 9, 9, 9, 1, 1, 1, 9, 9, 9, 9, 1, 1, 9, 9, 9, 9, 9, 9, 1, 1, 9}},
		{
			sharesOf(1, 2, 2, 0, 5, 9, 9, 1, 500, 4, 998, 3, 999, 1),
			[]int64{5, 1, 500, 998, 5, 5, 5, 998, 9, 998, 5, 500, 999, 500, 5, 5, 5, 5, 5, 5, 1, 5, 500, 5, 1, 5, 5, 5, 1, 5, 5},
		},
		{
			sharesOf(1, 1, 2, 1, 3, 1, 4, 1, 5, 1, 6, 1, 7, 1, 8, 1),
			[]int64{2, 1, 7, 4, 3, 3, 6, 2, 3, 7, 5, 6, 2, 1, 5, 5, 8, 3, 6, 7, 1, 8, 4, 8, 1, 5, 2, 4, 4, 7, 6},
		},
		{
			sharesOf(1, 9, 2, 9, 3, 9, 4, 9, 5, 9, 6, 9, 7, 9, 8, 9),
			[]int64{2, 1, 2, 3, 2, 1, 3, 2, 3, 1, 3, 4, 2, 1, 2, 4, 2, 1, 3, 2, 1, 1, 3, 4, 1, 3, 2, 4, 1, 3, 3},
		},
	}
	for _, one := range known {
		if got := impl.FillTable(one.list); got.Code != impl.OK || !slices.Equal(got.List, one.want) {
			t.Errorf("FillTable(%v) = %v, want %v", one.list, got, one.want)
		}
	}
}

func TestTablesOfManyShares(t *testing.T) {
	for _, list := range manyShares(1000) {
		if got := impl.FillTable(list); got.Code != impl.OK || !slices.Equal(got.List, wantTable(list)) {
			t.Errorf("FillTable(%v) = %v, want %v", list, got, wantTable(list))
		}
	}
}

func TestTableWhereNobodyHasAWeight(t *testing.T) {
	for _, list := range [][]impl.Share{nil, {}, sharesOf(1, 0), sharesOf(5, 0, 9, 0), sharesOf(1, 0, 2, 0, 3, 0, 4, 0, 5, 0, 6, 0, 7, 0, 999, 0)} {
		if got := impl.FillTable(list); got.Code != impl.OK || !slices.Equal(got.List, tableOf(0)) {
			t.Errorf("FillTable(%v) = %v, want nobody's places alone", list, got)
		}
	}
}

func TestTableWhereOneHasAWeight(t *testing.T) {
	for weight := int64(1); weight <= 9; weight++ {
		for _, name := range []int64{1, 2, 500, 999} {
			if got := impl.FillTable(sharesOf(name, weight)); got.Code != impl.OK || !slices.Equal(got.List, tableOf(name)) {
				t.Errorf("FillTable of %d with weight %d = %v", name, weight, got)
			}
		}
		list := sharesOf(1, 0, 2, weight, 3, 0)
		if got := impl.FillTable(list); got.Code != impl.OK || !slices.Equal(got.List, tableOf(2)) {
			t.Errorf("FillTable(%v) = %v, want 2 alone", list, got)
		}
	}
}

func TestTableOfSharesWithAFault(t *testing.T) {
	for code, lists := range badShares() {
		for _, list := range lists {
			if got := impl.FillTable(list); got.Code != code || len(got.List) != 0 {
				t.Errorf("FillTable(%v) = %v, want %d and nothing else", list, got, code)
			}
		}
	}
}

func TestWhereSomebodyHasAWeightNoPlaceIsNobodys(t *testing.T) {
	for _, list := range manyShares(1000) {
		weights := map[int64]int64{}
		for _, share := range list {
			if share.Weight > 0 {
				weights[share.Name] = share.Weight
			}
		}
		table := impl.FillTable(list).List
		for place, name := range table {
			if weights[name] == 0 && len(weights) > 0 || name != 0 && len(weights) == 0 {
				t.Errorf("the place %d of FillTable(%v) is of %d", place, list, name)
			}
		}
	}
}

func TestEachHasAsManyPlacesAsItsWeightGives(t *testing.T) {
	for _, list := range manyShares(1000) {
		table, all := impl.FillTable(list).List, int64(0)
		for _, share := range list {
			all += share.Weight
		}
		for _, share := range list {
			count := impl.CountOf(table, share.Name)
			if want := wantCounts(list)[share.Name]; count != want {
				t.Errorf("FillTable(%v) gives %d to %d, want %d", list, count, share.Name, want)
			}
			// The whole rounds, and at most one more.
			if all > 0 && (count < 31/all*share.Weight || count > (31/all+1)*share.Weight) {
				t.Errorf("FillTable(%v) gives %d to %d: more than a round away", list, count, share.Name)
			}
		}
	}
}

func TestWhoComesFirstInARound(t *testing.T) {
	met := 0
	for a := int64(1); a <= 60; a++ {
		for b := a + 1; b <= 60; b++ {
			table := impl.FillTable(sharesOf(a, 1, b, 1)).List
			if table[wantOrder(a)[0]] != a {
				t.Errorf("%d does not get the first place that it asks for beside %d", a, b)
			}
			if wantOrder(a)[0] == wantOrder(b)[0] {
				met++
			} else if table[wantOrder(b)[0]] != b {
				t.Errorf("%d does not get the first place that it asks for beside %d", b, a)
			}
			if impl.CountOf(table, a) != 16 || impl.CountOf(table, b) != 15 {
				t.Errorf("%d and %d have not 16 and 15 places", a, b)
			}
		}
	}
	if met == 0 {
		t.Error("no two ask for the same place first")
	}
}

func TestAHeavyShareTakesAllOfItsTurnAtOnce(t *testing.T) {
	for weight := int64(1); weight <= 9; weight++ {
		table := impl.FillTable(sharesOf(5, weight, 9, 1)).List
		for _, place := range wantOrder(5)[:weight] {
			if table[place] != 5 {
				t.Errorf("5 with weight %d has not its place %d", weight, place)
			}
		}
	}
}

func TestTheTableIsFullWithinTheFirstRound(t *testing.T) {
	got := impl.FillTable(sharesOf(1, 9, 2, 9, 3, 9, 4, 9, 5, 9)).List
	for name, want := range []int64{0, 9, 9, 9, 4, 0} {
		if count := impl.CountOf(got, int64(name)); count != want {
			t.Errorf("%d has %d places, want %d", name, count, want)
		}
	}
	even := impl.FillTable(sharesOf(1, 9, 2, 9, 3, 9, 4, 4, 5, 9)).List
	if impl.CountOf(even, 4) != 4 || impl.CountOf(even, 5) != 0 || impl.CountOf(even, 0) != 0 {
		t.Errorf("a table that is full between two shares is %v", even)
	}
	last := impl.FillTable(sharesOf(1, 9, 2, 9, 3, 9, 4, 3, 5, 1)).List
	if impl.CountOf(last, 5) != 1 || impl.CountOf(last, 4) != 3 || impl.CountOf(last, 0) != 0 {
		t.Errorf("a table that is full with the last share is %v", last)
	}
}
