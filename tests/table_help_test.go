package tests

import (
	"math/rand"
	"slices"
	"testing"

	"loop.example/g00222/impl"
)

// sharesOf makes shares of pairs: a name, its weight, and so on.
func sharesOf(pairs ...int64) []impl.Share {
	var list []impl.Share
	for i := 0; i+1 < len(pairs); i += 2 {
		list = append(list, impl.Share{Name: pairs[i], Weight: pairs[i+1]})
	}
	return list
}

// tableOf makes a table of one name alone.
func tableOf(name int64) []int64 {
	return slices.Repeat([]int64{name}, 31)
}

// someShares gives up to eight shares without a fault, with weights up to the one told.
func someShares(random *rand.Rand, heaviest int64) []impl.Share {
	names := allNames()
	random.Shuffle(len(names), func(i, j int) { names[i], names[j] = names[j], names[i] })
	names = names[:random.Intn(9)]
	slices.Sort(names)
	var list []impl.Share
	for _, name := range names {
		list = append(list, impl.Share{Name: name, Weight: random.Int63n(heaviest + 1)})
	}
	return list
}

// manyShares gives shares of all kinds without a fault: few and many, light and heavy, and such with weights of 0.
func manyShares(count int) [][]impl.Share {
	random := rand.New(rand.NewSource(4))
	lists := [][]impl.Share{
		nil, {}, sharesOf(1, 0), sharesOf(999, 0), sharesOf(1, 0, 999, 0), sharesOf(1, 9), sharesOf(999, 1), sharesOf(1, 0, 999, 9),
		sharesOf(5, 1, 9, 1), sharesOf(1, 9, 2, 9, 3, 9, 4, 9, 5, 9, 6, 9, 7, 9, 8, 9), sharesOf(1, 9, 2, 9, 3, 9, 4, 4, 5, 1),
	}
	for i := range count {
		lists = append(lists, someShares(random, int64(i%10)))
	}
	return lists
}

// badShares are lists with a fault, each with the code that is the first one.
func badShares() map[int64][][]impl.Share {
	nine := sharesOf(1, 1, 2, 1, 3, 1, 4, 1, 5, 1, 6, 1, 7, 1, 8, 1, 9, 1)
	bad := map[int64][][]impl.Share{
		impl.ErrMany: {
			nine, append(slices.Clone(nine), nine...), sharesOf(0, 0, 0, 0, 0, 0, 0, 0, 0, 0, 0, 0, 0, 0, 0, 0, 0, 0),
			sharesOf(9, 99, 8, 1, 7, 1, 6, 1, 5, 1, 4, 1, 3, 1, 2, 1, 1000, 1), make([]impl.Share, 500),
		},
		impl.ErrRange: {
			sharesOf(0, 1), sharesOf(1000, 1), sharesOf(1, -1), sharesOf(1, 10), sharesOf(0, 0), sharesOf(-1, -1), sharesOf(5, 1, 5, 10),
			sharesOf(5, 1, 0, 1), sharesOf(5, 1, 1000, 1), sharesOf(5, 10, 5, 1), sharesOf(5, 1, 9, 1, 77, 10),
			sharesOf(1, 1, 2, 1, 3, 1, 4, 1, 5, 1, 6, 1, 7, 1, 8, 10), sharesOf(5, 1, 9, 10, 9, 1),
		},
		impl.ErrForm: {
			sharesOf(5, 1, 5, 1), sharesOf(5, 0, 5, 0), sharesOf(9, 1, 5, 1), sharesOf(1, 1, 2, 1, 2, 1), sharesOf(999, 9, 1, 9),
			sharesOf(5, 1, 4, 1, 1000, 1), sharesOf(5, 1, 5, 9, 9, 10), sharesOf(2, 1, 3, 1, 1, 1), sharesOf(1, 1, 3, 1, 2, 1),
			sharesOf(1, 1, 2, 1, 3, 1, 4, 1, 5, 1, 6, 1, 7, 1, 7, 1),
		},
	}
	for _, far := range farNumbers {
		bad[impl.ErrRange] = append(bad[impl.ErrRange], sharesOf(far, 1), sharesOf(1, far), sharesOf(5, 1, far, 1), sharesOf(5, 1, 9, far))
	}
	return bad
}

// badTables are those that have not as many places as a table has.
func badTables() [][]int64 {
	full := tableOf(5)
	return [][]int64{nil, {}, {5}, full[:30], append(slices.Clone(full), 5), slices.Repeat(full, 2), slices.Repeat(full, 32)}
}

// wantTable works a table out turn by turn, with one line of names that is gone through again and again.
// Who is asked strikes from its own line of places all that are gone.
func wantTable(list []impl.Share) []int64 {
	table := make([]int64, 31)
	var line []int64
	asked := map[int64][]int64{}
	for _, share := range list {
		line = append(line, slices.Repeat([]int64{share.Name}, int(share.Weight))...)
		asked[share.Name] = wantOrder(share.Name)
	}
	for turn := 0; turn < 31 && len(line) > 0; turn++ {
		name := line[turn%len(line)]
		place := asked[name][0]
		table[place] = name
		for other, places := range asked {
			asked[other] = slices.DeleteFunc(places, func(p int64) bool { return p == place })
		}
	}
	return table
}

// wantCounts tells how many places each share gets, from the weights alone: as many as all whole rounds give it,
// and of the round that is not ended what those ahead leave.
func wantCounts(list []impl.Share) map[int64]int64 {
	all := int64(0)
	for _, share := range list {
		all += share.Weight
	}
	counts := map[int64]int64{}
	if all == 0 {
		return counts
	}
	left := 31 % all
	for _, share := range list {
		last := min(left, share.Weight)
		counts[share.Name] = 31/all*share.Weight + last
		left -= last
	}
	return counts
}

func TestTableHelpersAgreeWithTheExample(t *testing.T) {
	counts := wantCounts(sharesOf(5, 1, 9, 1))
	if counts[5] != 16 || counts[9] != 15 {
		t.Errorf("wantCounts is off: %v", counts)
	}
	// By hand: 5 asks for 14, 4, 25, 15, 5, and 9 for 8, 16, 24, 1, 9.
	table := wantTable(sharesOf(5, 1, 9, 1))
	fives, nines := []int64{14, 4, 25, 15, 5}, []int64{8, 16, 24, 1, 9}
	for i := range fives {
		if table[fives[i]] != 5 || table[nines[i]] != 9 {
			t.Errorf("wantTable is off: %v", table)
		}
	}
	if slices.Contains(table, 0) || !slices.Equal(wantTable(sharesOf(5, 0)), tableOf(0)) {
		t.Errorf("wantTable is off: %v", table)
	}
	if len(manyShares(5)) != 16 || len(badShares()) != 3 {
		t.Error("the lists are not all there")
	}
}
