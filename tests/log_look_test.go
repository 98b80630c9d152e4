package tests

import (
	"math/rand"
	"slices"
	"testing"

	"loop.example/g00222/impl"
)

// nearNumbers are indexes and terms in and about a log, and numbers far from it.
func nearNumbers(log []impl.Entry) []int64 {
	list := []int64{-2, -1, 0, 1, 2, 3, 4, 5, 6, 39, 40, 41, 99999, 100000, 100001, int64(len(log)) - 1, int64(len(log)), int64(len(log)) + 1}
	return append(list, farNumbers...)
}

func TestLastOf(t *testing.T) {
	if impl.LastOf(nil) != (impl.Entry{}) || impl.LastOf([]impl.Entry{}) != (impl.Entry{}) {
		t.Error("the last one of none is not zero")
	}
	// No fault is asked for: the last one is told of what falls, of what has a fault, and of too many.
	logs := append(manyLogs(300), manyBadLogs(300)...)
	logs = append(logs, termsLog(3, 2, 1), make([]impl.Entry, 41), append(fullLog(), impl.Entry{Term: -7}))
	for _, log := range logs {
		want := impl.Entry{}
		for _, x := range log {
			want = x
		}
		if got := impl.LastOf(log); got != want {
			t.Errorf("the last one of %v is %v", log, got)
		}
	}
}

func TestFitsAtByHand(t *testing.T) {
	log := termsLog(1, 1, 2, 5)
	for _, one := range []struct {
		index, term int64
		want        bool
	}{
		{0, 0, true}, {1, 1, true}, {2, 1, true}, {3, 2, true}, {4, 5, true},
		{0, 1, false}, {0, 5, false}, {1, 0, false}, {1, 2, false}, {2, 2, false}, {3, 1, false}, {4, 2, false}, {4, 0, false}, {4, 6, false},
		{5, 0, false}, {5, 5, false}, {6, 5, false}, {40, 5, false}, {41, 0, false}, {-1, 0, false}, {-1, 1, false}, {-4, 5, false}, {0, -1, false},
	} {
		if got := impl.FitsAt(log, one.index, one.term); got != one.want {
			t.Errorf("that %v fits at %d with the term %d is %v", log, one.index, one.term, got)
		}
	}
	if !impl.FitsAt(nil, 0, 0) || impl.FitsAt(nil, 1, 0) || impl.FitsAt(nil, 0, 1) || impl.FitsAt(nil, -1, 0) || impl.FitsAt(nil, 1, 1) {
		t.Error("no entries fit elsewhere than at 0")
	}
	full := fullLog()
	if !impl.FitsAt(full, 40, 100000) || !impl.FitsAt(full, 1, 1) || !impl.FitsAt(full, 20, 1) || !impl.FitsAt(full, 21, 100000) ||
		impl.FitsAt(full, 21, 1) || impl.FitsAt(full, 20, 100000) || impl.FitsAt(full, 41, 100000) || impl.FitsAt(full, 41, 0) {
		t.Error("the longest log does not fit as it should")
	}
}

func TestFitsAtOfManyLogs(t *testing.T) {
	for _, log := range append(manyLogs(200), manyBadLogs(200)...) {
		for _, index := range nearNumbers(log) {
			for _, term := range nearNumbers(log) {
				if got := impl.FitsAt(log, index, term); got != wantFits(log, index, term) {
					t.Fatalf("that %v fits at %d with the term %d is %v", log, index, term, got)
				}
			}
		}
	}
}

func TestUpToDateByHand(t *testing.T) {
	log := termsLog(1, 1, 2, 5)
	for _, one := range []struct {
		index, term int64
		want        bool
	}{
		{4, 5, true}, {5, 5, true}, {41, 5, true}, {0, 6, true}, {-1, 6, true}, {1, 100001, true}, {4, 6, true},
		{3, 5, false}, {0, 5, false}, {-1, 5, false}, {4, 4, false}, {9, 4, false}, {40, 2, false}, {4, 0, false}, {9, -1, false},
	} {
		if got := impl.UpToDate(log, one.index, one.term); got != one.want {
			t.Errorf("that index %d and term %d are up to date with %v is %v", one.index, one.term, log, got)
		}
	}
	if !impl.UpToDate(nil, 0, 0) || !impl.UpToDate(nil, 1, 0) || !impl.UpToDate(nil, -1, 1) || impl.UpToDate(nil, -1, 0) || impl.UpToDate(nil, 9, -1) {
		t.Error("no entries have the term 0, and there are 0 of them")
	}
	if !impl.UpToDate(fullLog(), 40, 100000) || impl.UpToDate(fullLog(), 39, 100000) || impl.UpToDate(fullLog(), 41, 99999) {
		t.Error("the longest log is not up to date as it should")
	}
}

func TestUpToDateOfManyLogs(t *testing.T) {
	for _, log := range append(manyLogs(200), manyBadLogs(200)...) {
		for _, index := range nearNumbers(log) {
			for _, term := range append(nearNumbers(log), impl.LastOf(log).Term) {
				if got := impl.UpToDate(log, index, term); got != wantUpToDate(log, index, term) {
					t.Fatalf("that index %d and term %d are up to date with %v is %v", index, term, log, got)
				}
			}
		}
	}
}

func TestNothingFitsALogWithAFault(t *testing.T) {
	for _, log := range [][]impl.Entry{
		{{}}, termsLog(2, 1), termsLog(1, 100001), termsLog(evenTerms(41, 1)...), append(fullLog(), impl.Entry{Term: 100000}),
		{{Term: 1}, askedOf(1, 1, 0, plainCmds()[0])}, {{Term: 1}, askedOf(1, 1, 1, impl.Cmd{})}, {{Term: 1}, askedOf(1, 0, 0, plainCmds()[0])},
	} {
		// The fault may stand behind what is asked for.
		for _, index := range []int64{0, 1, 2, 40, 41} {
			for _, term := range []int64{0, 1, 2, 100000, 100001, 1 << 62} {
				if impl.FitsAt(log, index, term) || impl.UpToDate(log, index, term) {
					t.Errorf("%v fits, or is up to date, at %d with %d", log, index, term)
				}
			}
		}
	}
}

// turnedEntries gives an entry with one number turned, each of them in turns.
func turnedEntries(x impl.Entry) []impl.Entry {
	var list []impl.Entry
	for _, field := range []func(x *impl.Entry) *int64{
		func(x *impl.Entry) *int64 { return &x.Term }, func(x *impl.Entry) *int64 { return &x.Client }, func(x *impl.Entry) *int64 { return &x.Seq },
		func(x *impl.Entry) *int64 { return &x.Cmd.Kind }, func(x *impl.Entry) *int64 { return &x.Cmd.Expect }, func(x *impl.Entry) *int64 { return &x.Cmd.Name },
		func(x *impl.Entry) *int64 { return &x.Cmd.Addr }, func(x *impl.Entry) *int64 { return &x.Cmd.Number }, func(x *impl.Entry) *int64 { return &x.Cmd.Proto },
	} {
		turned := x
		*field(&turned)++
		list = append(list, turned)
	}
	return list
}

func mustShare(t *testing.T, a, b []impl.Entry, want int64) {
	t.Helper()
	whole := len(a) == len(b) && want == int64(len(a))
	for _, pair := range [][2][]impl.Entry{{a, b}, {b, a}} {
		if got := impl.CommonOf(pair[0], pair[1]); got != want {
			t.Errorf("%v and %v have %d in common, not %d", pair[0], pair[1], got, want)
		}
		if got := impl.SameEntries(pair[0], pair[1]); got != whole {
			t.Errorf("that %v and %v are the same is %v", pair[0], pair[1], got)
		}
	}
}

func TestEntriesInCommon(t *testing.T) {
	mustShare(t, nil, nil, 0)
	mustShare(t, nil, []impl.Entry{}, 0)
	mustShare(t, nil, plainLog(), 0)
	for _, log := range [][]impl.Entry{plainLog(), fullLog(), markedLog(3, 1, 2, 3)} {
		for place, x := range log {
			mustShare(t, log, log[:place], int64(place))
			for _, turned := range turnedEntries(x) {
				other := slices.Clone(log)
				other[place] = turned
				mustShare(t, log, other, int64(place))
			}
			// What is alike behind what is not does not count.
			without := slices.Delete(slices.Clone(log), place, place+1)
			mustShare(t, log, without, wantCommon(log, without))
		}
	}
}

func TestEntriesInCommonAskForNoFault(t *testing.T) {
	many := slices.Repeat(plainLog(), 20)
	mustShare(t, many, slices.Clone(many), int64(len(many)))
	mustShare(t, many, many[:41], 41)
	mustShare(t, termsLog(3, 2, 1), termsLog(3, 2, 1), 3)
	mustShare(t, termsLog(3, 2, 1), termsLog(3, 2, 2), 2)
	mustShare(t, make([]impl.Entry, 3), make([]impl.Entry, 5), 3)
	mustShare(t, termsLog(-1), termsLog(-1), 1)
	mustShare(t, termsLog(1<<62), termsLog(1<<62, 1), 1)
	mustShare(t, []impl.Entry{{Client: -1 << 63}}, []impl.Entry{{Client: 1<<63 - 1}}, 0)
}

func TestEntriesInCommonOfManyLogs(t *testing.T) {
	random := rand.New(rand.NewSource(73))
	logs := append(manyLogs(300), manyBadLogs(300)...)
	for range 20000 {
		a := logs[random.Intn(len(logs))]
		b := logs[random.Intn(len(logs))]
		if random.Intn(2) == 0 {
			cut := random.Intn(len(a) + 1)
			b = slices.Concat(a[:cut], b[min(cut, len(b)):])
		}
		mustShare(t, a, b, wantCommon(a, b))
	}
}
