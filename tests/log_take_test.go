package tests

import (
	"math/rand"
	"slices"
	"testing"

	"loop.example/g00222/impl"
)

func mustTakeEntries(t *testing.T, log []impl.Entry, index, term int64, more, want []impl.Entry) {
	t.Helper()
	if got := impl.TakeEntries(log, index, term, more); got.Code != impl.OK || !slices.Equal(got.Entries, want) {
		t.Errorf("behind %d (%d) of %v, %v gives %v, not %v", index, term, log, more, got, want)
	}
}

func mustNotTakeEntries(t *testing.T, log []impl.Entry, index, term int64, more []impl.Entry, code int64) {
	t.Helper()
	if got := impl.TakeEntries(log, index, term, more); got.Code != code || len(got.Entries) != 0 {
		t.Errorf("behind %d (%d) of %v, %v gives %v, not the code %d alone", index, term, log, more, got, code)
	}
}

func checkTake(t *testing.T, log []impl.Entry, index, term int64, more []impl.Entry) int64 {
	t.Helper()
	code, want := wantTake(log, index, term, more)
	if code == impl.OK {
		mustTakeEntries(t, log, index, term, more, want)
	} else {
		mustNotTakeEntries(t, log, index, term, more, code)
	}
	return code
}

// mixed joins pieces of logs.
func mixed(pieces ...[]impl.Entry) []impl.Entry {
	return slices.Concat(pieces...)
}

func TestTakeEntriesByHand(t *testing.T) {
	own := markedLog(1, 1, 1, 2, 2, 5)
	same, later := markedLog(2, 2, 2), markedLog(2, 2, 3)
	mustTakeEntries(t, own, 0, 0, nil, own)
	mustTakeEntries(t, own, 3, 2, nil, own)
	mustTakeEntries(t, own, 5, 5, nil, own)
	mustTakeEntries(t, nil, 0, 0, nil, nil)
	mustTakeEntries(t, nil, 0, 0, own, own)
	// Behind the last one.
	mustTakeEntries(t, own, 5, 5, markedLog(2, 5, 6), mixed(own, markedLog(2, 5, 6)))
	// What is there already stays, and what stands behind it too.
	mustTakeEntries(t, own, 2, 1, same, own)
	mustTakeEntries(t, own, 2, 1, same[:1], own)
	mustTakeEntries(t, own, 0, 0, own[:2], own)
	mustTakeEntries(t, own, 3, 2, markedLog(2, 2, 5), own)
	// The second one has another term: it goes, and all behind it.
	mustTakeEntries(t, own, 2, 1, later, mixed(own[:3], later[1:]))
	mustTakeEntries(t, own, 1, 1, markedLog(2, 1, 2, 4, 5, 5), mixed(own[:3], markedLog(2, 1, 2, 4, 5, 5)[2:]))
	// The first one has: behind what fits only more stands.
	mustTakeEntries(t, own, 2, 1, markedLog(2, 3), mixed(own[:2], markedLog(2, 3)))
	mustTakeEntries(t, own, 0, 0, markedLog(2, 2), markedLog(2, 2))
	mustTakeEntries(t, own, 4, 2, markedLog(2, 2), mixed(own[:4], markedLog(2, 2)))
	// Some are there already, the others come behind the last one.
	mustTakeEntries(t, own, 4, 2, markedLog(2, 5, 5, 9), mixed(own, markedLog(2, 5, 5, 9)[1:]))
}

func TestTakeEntriesOfAllShortLogs(t *testing.T) {
	var lists [][]int64
	for a := range int64(4) {
		for b := range int64(4) {
			for c := range int64(4) {
				terms := slices.DeleteFunc([]int64{a, b, c}, func(term int64) bool { return term == 0 })
				lists = append(lists, terms)
			}
		}
	}
	codes := map[int64]int{}
	for _, first := range lists {
		for _, second := range lists {
			for index := int64(-1); index < 5; index++ {
				for term := int64(-1); term < 5; term++ {
					codes[checkTake(t, markedLog(1, first...), index, term, markedLog(2, second...))]++
				}
			}
		}
	}
	if codes[impl.OK] < 1000 || codes[impl.ErrForm] < 1000 || codes[impl.ErrOld] < 1000 {
		t.Errorf("the codes are %v", codes)
	}
}

func TestTakeEntriesThatAreThereAlready(t *testing.T) {
	for _, log := range manyLogs(100) {
		term := int64(0)
		for index := range len(log) + 1 {
			if index > 0 {
				term = log[index-1].Term
			}
			for end := index; end <= len(log); end++ {
				mustTakeEntries(t, log, int64(index), term, log[index:end], log)
				// The terms tell them apart, and nothing else.
				terms := termsLog()
				for _, x := range log[index:end] {
					terms = append(terms, impl.Entry{Term: x.Term})
				}
				mustTakeEntries(t, log, int64(index), term, terms, log)
			}
		}
	}
}

func TestTakeEntriesOfAsManyAsThereMayBe(t *testing.T) {
	full, one := markedLog(1, evenTerms(40, 3)...), markedLog(2, 4)
	mustTakeEntries(t, nil, 0, 0, full, full)
	mustTakeEntries(t, full, 0, 0, full, full)
	mustTakeEntries(t, full, 40, 3, nil, full)
	mustTakeEntries(t, full, 39, 3, one, mixed(full[:39], one))
	mustNotTakeEntries(t, full, 40, 3, one, impl.ErrMany)
	mustTakeEntries(t, full[:39], 39, 3, one, mixed(full[:39], one))
	mustNotTakeEntries(t, full[:39], 39, 3, markedLog(2, 4, 4), impl.ErrMany)
	mustNotTakeEntries(t, full[:39], 39, 3, full, impl.ErrMany)
	mustNotTakeEntries(t, full, 1, 3, full, impl.ErrMany)
	mustTakeEntries(t, full, 1, 3, full[1:], full)
	mustTakeEntries(t, full[:1], 1, 3, full[1:], mixed(full[:1], full[1:]))
	mustNotTakeEntries(t, full[:1], 1, 3, full, impl.ErrMany)
	// What goes makes room, but only what is left counts.
	late := markedLog(2, evenTerms(20, 9)...)
	mustTakeEntries(t, full, 20, 3, late, mixed(full[:20], late))
	mustNotTakeEntries(t, full, 21, 3, late, impl.ErrMany)
	mustTakeEntries(t, full, 0, 0, late, late)
	for length := range int64(41) {
		for count := range 41 {
			term := min(length, 1) * 3
			checkTake(t, full[:length], length, term, markedLog(2, evenTerms(count, 3)...))
			checkTake(t, full, length, term, markedLog(2, evenTerms(count, 3)...))
			checkTake(t, full, length, term, markedLog(2, evenTerms(count, 4)...))
		}
	}
	great := fullLog()
	mustTakeEntries(t, great[:20], 20, 1, great[20:], great)
	mustTakeEntries(t, great, 39, 100000, termsLog(100000), great)
	mustNotTakeEntries(t, great, 40, 100000, termsLog(100000), impl.ErrMany)
}

func TestTakeEntriesWhereTheLogDoesNotFit(t *testing.T) {
	own, more := markedLog(1, 1, 1, 2), markedLog(2, 3)
	for _, far := range append([]int64{-2, -1, 4, 5, 40, 41}, farNumbers...) {
		for _, term := range append([]int64{0, 1, 2, 3}, farNumbers...) {
			mustNotTakeEntries(t, own, far, term, more, impl.ErrOld)
			mustNotTakeEntries(t, own, far, term, nil, impl.ErrOld)
		}
	}
	for index, right := range []int64{0, 1, 1, 2} {
		for _, term := range append([]int64{-1, 0, 1, 2, 3, 100000, 100001}, farNumbers...) {
			if term != right {
				mustNotTakeEntries(t, own, int64(index), term, more, impl.ErrOld)
				mustNotTakeEntries(t, own, int64(index), term, nil, impl.ErrOld)
			}
		}
	}
	mustNotTakeEntries(t, nil, 1, 0, more, impl.ErrOld)
	mustNotTakeEntries(t, nil, 0, 1, more, impl.ErrOld)
	mustNotTakeEntries(t, nil, 1, 1, nil, impl.ErrOld)
}

func TestTakeEntriesOfAnEarlierTerm(t *testing.T) {
	own := markedLog(1, 2, 4, 4)
	mustNotTakeEntries(t, own, 1, 2, markedLog(2, 1), impl.ErrForm)
	mustNotTakeEntries(t, own, 1, 2, markedLog(2, 1, 4, 4), impl.ErrForm)
	mustNotTakeEntries(t, own, 3, 4, markedLog(2, 3), impl.ErrForm)
	mustNotTakeEntries(t, own, 2, 4, markedLog(2, 3, 4), impl.ErrForm)
	mustTakeEntries(t, own, 1, 2, markedLog(2, 2), mixed(own[:1], markedLog(2, 2)))
	mustTakeEntries(t, own, 1, 2, markedLog(2, 3, 4), mixed(own[:1], markedLog(2, 3, 4)))
	mustTakeEntries(t, own, 0, 0, markedLog(2, 1), markedLog(2, 1))
}

func TestTakeEntriesAsksForTheFirstCode(t *testing.T) {
	own, falls, many := markedLog(1, 2, 4, 4), termsLog(2, 1), termsLog(evenTerms(41, 1)...)
	// The log ahead of more, and both ahead of the index.
	for code, bad := range map[int64][]impl.Entry{impl.ErrMany: many, impl.ErrForm: falls, impl.ErrRange: termsLog(0)} {
		for _, other := range [][]impl.Entry{nil, own, falls, many, termsLog(100001), {askedOf(1, 1, 1, impl.Cmd{})}} {
			mustNotTakeEntries(t, bad, 0, 0, other, code)
			mustNotTakeEntries(t, bad, 9, 9, other, code)
			if wantLogFault(other) == impl.OK {
				mustNotTakeEntries(t, other, 0, 0, bad, code)
				mustNotTakeEntries(t, other, 9, 9, bad, code)
				mustNotTakeEntries(t, other, -1, -1, bad, code)
			}
		}
	}
	// The index ahead of the term of more, and this ahead of how many there would be.
	full := markedLog(1, evenTerms(40, 3)...)
	mustNotTakeEntries(t, own, 2, 5, markedLog(2, 1), impl.ErrOld)
	mustNotTakeEntries(t, own, 4, 4, markedLog(2, 1), impl.ErrOld)
	mustNotTakeEntries(t, full, 41, 3, markedLog(2, 1), impl.ErrOld)
	mustNotTakeEntries(t, full, 40, 4, markedLog(2, 4), impl.ErrOld)
	mustNotTakeEntries(t, full, 40, 3, markedLog(2, 2), impl.ErrForm)
	mustNotTakeEntries(t, full, 40, 3, markedLog(2, 3), impl.ErrMany)
}

// someTake gives a log and entries that were perhaps sent to it: of a log like it, or of another one, with or without a fault.
func someTake(random *rand.Rand, logs [][]impl.Entry) (log []impl.Entry, index, term int64, more []impl.Entry) {
	log, more = logs[random.Intn(len(logs))], logs[random.Intn(len(logs))]
	index = random.Int63n(int64(len(log)) + 1)
	if random.Intn(2) == 0 {
		cut := index + random.Int63n(int64(len(log))-index+1)
		more = mixed(log[index:cut], more[:random.Intn(len(more)+1)])
	}
	for random.Intn(4) > 0 && len(more) > 0 && index > 0 && more[0].Term < log[index-1].Term {
		more = more[1:]
	}
	if index > 0 {
		term = log[index-1].Term
	}
	if random.Intn(10) == 0 {
		index += random.Int63n(3) - 1
	}
	if random.Intn(10) == 0 {
		term += random.Int63n(3) - 1
	}
	return log, index, term, more
}

func TestTakeEntriesOfManyLogs(t *testing.T) {
	random := rand.New(rand.NewSource(74))
	logs := append(manyLogs(600), manyBadLogs(60)...)
	codes := map[int64]int{}
	for range 60000 {
		log, index, term, more := someTake(random, logs)
		codes[checkTake(t, log, index, term, more)]++
	}
	for _, code := range []int64{impl.OK, impl.ErrForm, impl.ErrMany, impl.ErrRange, impl.ErrOld} {
		if codes[code] < 500 {
			t.Errorf("the codes are %v", codes)
		}
	}
}

func TestEntriesThatAreTakenStandWhereTheyWereToldTo(t *testing.T) {
	random := rand.New(rand.NewSource(75))
	logs := manyLogs(600)
	taken, turned, longer := 0, 0, 0
	for range 60000 {
		log, index, term, more := someTake(random, logs)
		got := impl.TakeEntries(log, index, term, more)
		if got.Code != impl.OK {
			continue
		}
		taken++
		end := int(index) + len(more)
		if impl.LogFault(got.Entries) != impl.OK || len(got.Entries) < end {
			t.Fatalf("behind %d of %v, %v gives %v", index, log, more, got.Entries)
		}
		for i, x := range more {
			there := got.Entries[int(index)+i]
			kept := int(index)+i < len(log) && log[int(index)+i].Term == x.Term
			if there.Term != x.Term || there != x && (!kept || there != log[int(index)+i]) {
				t.Fatalf("behind %d of %v, %v gives %v: the entry %d is not as it was told", index, log, more, got.Entries, i)
			}
		}
		// Nothing ahead of them turns, and where nothing turns nothing is gone either.
		common := impl.CommonOf(log, got.Entries)
		if common < index || len(more) == 0 && !impl.SameEntries(got.Entries, log) {
			t.Fatalf("behind %d of %v, %v gives %v: it turned only behind %d", index, log, more, got.Entries, common)
		}
		if common < int64(len(log)) {
			turned++
			if len(got.Entries) != end {
				t.Fatalf("behind %d of %v, %v gives %v: something is left behind what turned", index, log, more, got.Entries)
			}
		} else if len(got.Entries) > len(log) {
			longer++
		}
		again := impl.TakeEntries(got.Entries, index, term, more)
		if again.Code != impl.OK || !impl.SameEntries(again.Entries, got.Entries) {
			t.Fatalf("%v that is taken twice behind %d of %v gives %v", more, index, log, again)
		}
	}
	if taken < 5000 || turned < 500 || longer < 500 {
		t.Errorf("%d were taken, of %d something turned, and %d came to be longer", taken, turned, longer)
	}
}

func TestEntriesThatAreTakenInTwoPartsAreAsIfInOne(t *testing.T) {
	random := rand.New(rand.NewSource(76))
	logs := manyLogs(600)
	for range 20000 {
		log, index, term, more := someTake(random, logs)
		whole := impl.TakeEntries(log, index, term, more)
		if whole.Code != impl.OK || len(more) == 0 {
			continue
		}
		cut := random.Intn(len(more))
		first := impl.TakeEntries(log, index, term, more[:cut]).Entries
		if cut > 0 {
			term = more[cut-1].Term
		}
		second := impl.TakeEntries(first, index+int64(cut), term, more[cut:])
		if second.Code != impl.OK || !impl.SameEntries(second.Entries, whole.Entries) {
			t.Fatalf("%v behind %d of %v, cut at %d, gives %v, not %v", more, index, log, cut, second, whole.Entries)
		}
	}
}
