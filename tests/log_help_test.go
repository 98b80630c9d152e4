package tests

import (
	"cmp"
	"maps"
	"math/rand"
	"slices"
	"testing"

	"loop.example/g00222/impl"
)

func askedOf(term, client, seq int64, x impl.Cmd) impl.Entry {
	return impl.Entry{Term: term, Client: client, Seq: seq, Cmd: x}
}

// termsLog gives entries of nothing of the terms.
func termsLog(terms ...int64) []impl.Entry {
	var log []impl.Entry
	for _, term := range terms {
		log = append(log, impl.Entry{Term: term})
	}
	return log
}

// markedLog gives entries of the terms that a client asked for, so that they are told apart from those of others.
func markedLog(client int64, terms ...int64) []impl.Entry {
	var log []impl.Entry
	for i, term := range terms {
		log = append(log, askedOf(term, client, int64(i)+1, plainCmds()[i%9]))
	}
	return log
}

// evenTerms gives so many times the same term.
func evenTerms(count int, term int64) []int64 {
	return slices.Repeat([]int64{term}, count)
}

// plainLog has entries of nothing and of clients, one of them twice, and terms that stay and that leap.
func plainLog() []impl.Entry {
	cmds := plainCmds()
	return []impl.Entry{
		{Term: 1}, askedOf(1, 3, 5, cmds[0]), askedOf(1, 3, 5, cmds[0]), askedOf(4, 999, 1000000, cmds[6]), {Term: 4},
		askedOf(5, 1, 1, cmds[8]), askedOf(100000, 999, 2, cmds[4]),
	}
}

// fullLog has as many entries as there may be, and all numbers at their least or their greatest.
func fullLog() []impl.Entry {
	var log []impl.Entry
	for i := range 40 {
		x := plainCmds()[i%9]
		x.Expect = []int64{-1, 1000000}[i%2]
		log = append(log, askedOf([]int64{1, 100000}[i/20], []int64{1, 999}[i%2], []int64{1, 1000000}[i/2%2], x))
	}
	log[0], log[39] = impl.Entry{Term: 1}, impl.Entry{Term: 100000}
	return log
}

// someEntry gives an entry without a fault.
func someEntry(random *rand.Rand, term int64) impl.Entry {
	if random.Intn(3) == 0 {
		return impl.Entry{Term: term}
	}
	x := plainCmds()[random.Intn(9)]
	return askedOf(term, 1+random.Int63n(3), 1+random.Int63n(4), x)
}

// someLog gives a log without a fault whose terms are near those of others.
func someLog(random *rand.Rand, most int) []impl.Entry {
	var log []impl.Entry
	term := 1 + random.Int63n(2)
	for range random.Intn(most + 1) {
		if random.Intn(3) == 0 {
			term += random.Int63n(3)
		}
		log = append(log, someEntry(random, term))
	}
	return log
}

// manyLogs gives logs without a fault: known ones, none, the longest, and some of all kinds.
func manyLogs(count int) [][]impl.Entry {
	random := rand.New(rand.NewSource(7))
	logs := [][]impl.Entry{nil, {}, plainLog(), fullLog(), termsLog(1), termsLog(100000), termsLog(1, 100000), termsLog(evenTerms(40, 7)...)}
	for i := range count {
		logs = append(logs, someLog(random, []int{3, 8, 40}[i%3]))
	}
	return logs
}

// spoilEntry breaks one thing of an entry, or hits none.
func spoilEntry(random *rand.Rand, x *impl.Entry) {
	wrong := func(list ...int64) int64 { return append(list, farNumbers...)[random.Intn(len(list)*3)] }
	switch random.Intn(7) {
	case 0:
		x.Term = wrong(0, 100001)
	case 1:
		x.Client = wrong(-1, 1000)
	case 2:
		x.Seq = wrong(-1, 1000001)
	case 3:
		x.Client = 0
	case 4:
		x.Seq = 0
	case 5:
		x.Cmd = someCmd(random, plainConfig())
		*fieldsOf(&x.Cmd)[random.Intn(4)] = wrong(-1, 1, 65536)
	case 6:
		x.Term = 1 + random.Int63n(5)
	}
}

// manyBadLogs gives logs of which nearly all have one fault or several.
func manyBadLogs(count int) [][]impl.Entry {
	random := rand.New(rand.NewSource(77))
	var logs [][]impl.Entry
	for i := range count {
		log := [][]impl.Entry{plainLog(), fullLog(), append(someLog(random, 9), someEntry(random, 9))}[i%3]
		for range 1 + i%4 {
			spoilEntry(random, &log[random.Intn(len(log))])
		}
		if i%10 == 0 {
			log = slices.Repeat(log, 1+40/len(log))
		}
		logs = append(logs, log)
	}
	return logs
}

// wantEntryFault asks for each fault by itself and takes the first one.
func wantEntryFault(x impl.Entry) int64 {
	off := func(n, least, most int64) bool { return n < least || n > most }
	nothing := x.Cmd == cmdOf(0, 0, 0, 0, 0, 0)
	return cmp.Or(
		told(off(x.Term, 1, 100000) || off(x.Client, 0, 999) || off(x.Seq, 0, 1000000), impl.ErrRange),
		told(x.Client == 0 && x.Seq != 0 || x.Client != 0 && x.Seq == 0, impl.ErrForm),
		told(x.Client != 0, wantCmdFault(x.Cmd)),
		told(x.Client == 0 && !nothing, impl.ErrForm),
	)
}

func wantLogFault(log []impl.Entry) int64 {
	if len(log) > 40 {
		return impl.ErrMany
	}
	for i, x := range log {
		falls := int64(impl.OK)
		if i > 0 && log[i-1].Term > x.Term {
			falls = impl.ErrForm
		}
		if code := cmp.Or(wantEntryFault(x), falls); code != impl.OK {
			return code
		}
	}
	return impl.OK
}

// wantFits looks the term of an index up; what is ahead of all entries has the term 0.
func wantFits(log []impl.Entry, index, term int64) bool {
	terms := map[int64]int64{0: 0}
	for i, x := range log {
		terms[int64(i)+1] = x.Term
	}
	known, there := terms[index]
	return wantLogFault(log) == impl.OK && there && known == term
}

func wantUpToDate(log []impl.Entry, index, term int64) bool {
	own := []int64{0, int64(len(log))}
	for _, x := range log {
		own[0] = x.Term
	}
	return wantLogFault(log) == impl.OK && slices.Compare([]int64{term, index}, own) >= 0
}

// wantTake puts one entry after the other to its index.
func wantTake(log []impl.Entry, index, term int64, more []impl.Entry) (int64, []impl.Entry) {
	if code := cmp.Or(wantLogFault(log), wantLogFault(more)); code != impl.OK {
		return code, nil
	}
	if !wantFits(log, index, term) {
		return impl.ErrOld, nil
	}
	at := map[int64]impl.Entry{}
	for i, x := range log {
		at[int64(i)+1] = x
	}
	for i, x := range more {
		place := index + 1 + int64(i)
		if i == 0 && x.Term < term {
			return impl.ErrForm, nil
		}
		if at[place].Term != x.Term {
			maps.DeleteFunc(at, func(other int64, _ impl.Entry) bool { return other > place })
			at[place] = x
		}
	}
	if len(at) > 40 {
		return impl.ErrMany, nil
	}
	var all []impl.Entry
	for _, place := range slices.Sorted(maps.Keys(at)) {
		all = append(all, at[place])
	}
	return impl.OK, all
}

// wantCommon tries all beginnings, from the longest one on.
func wantCommon(a, b []impl.Entry) int64 {
	for count := min(len(a), len(b)); count > 0; count-- {
		if slices.Equal(a[:count], b[:count]) {
			return int64(count)
		}
	}
	return 0
}

func TestLogHelpersAgreeWithEachOther(t *testing.T) {
	for _, log := range manyLogs(300) {
		if wantLogFault(log) != impl.OK || !wantFits(log, 0, 0) || wantCommon(log, log) != int64(len(log)) {
			t.Fatalf("%v is not without a fault", log)
		}
	}
	codes := map[int64]int{}
	for _, log := range manyBadLogs(4000) {
		codes[wantLogFault(log)]++
	}
	for _, code := range []int64{impl.OK, impl.ErrForm, impl.ErrMany, impl.ErrRange} {
		if codes[code] < 100 {
			t.Errorf("the faults are %v", codes)
		}
	}
	// By hand: the second entry has another term, so that it and the third are gone.
	if _, all := wantTake(termsLog(1, 2, 2), 1, 1, termsLog(3)); !slices.Equal(all, termsLog(1, 3)) {
		t.Errorf("wantTake is off: %v", all)
	}
}
