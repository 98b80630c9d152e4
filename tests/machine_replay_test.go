package tests

import (
	"math/rand"
	"slices"
	"testing"

	"loop.example/g00222/impl"
)

// mustReplay wants what entries make: of all of them, and of each of the versions that there was.
func mustReplay(t *testing.T, list []impl.Entry, reply int64, m impl.Machine, versions ...impl.Config) {
	t.Helper()
	mustGive(t, impl.ReplayEntries(list), impl.MachineResult{Reply: reply, Machine: m})
	mustGive(t, impl.VersionsOf(list), impl.ConfigsResult{Configs: append([]impl.Config{{}}, versions...)})
}

func mustNotReplay(t *testing.T, list []impl.Entry, code int64) {
	t.Helper()
	mustGive(t, impl.ReplayEntries(list), impl.MachineResult{Code: code})
	mustGive(t, impl.VersionsOf(list), impl.ConfigsResult{Code: code})
}

// grown are the first versions that the plain commands make: a backend, its weight, and a vip.
func grown() (one, two, three impl.Config) {
	one = impl.Config{Version: 1, Backends: []impl.Backend{backendOf(3, 500, 2, impl.StageOn, true)}}
	two = impl.Config{Version: 2, Backends: []impl.Backend{backendOf(3, 500, 7, impl.StageOn, true)}}
	three = impl.Config{Version: 3, Backends: two.Backends, Vips: []impl.Vip{vipOf(9, 80, 6)}}
	return one, two, three
}

func TestReplayEntriesByHand(t *testing.T) {
	one, two, three := grown()
	backend, weight, vip := plainCmds()[0], cmdOf(impl.CmdWeight, -1, 3, 0, 7, 0), plainCmds()[4]
	mustReplay(t, nil, impl.OK, impl.Machine{})
	mustReplay(t, termsLog(1, 1, 2), impl.OK, impl.Machine{})
	first := askedOf(1, 3, 5, backend)
	mustReplay(t, []impl.Entry{first}, impl.OK, machineOf(one, sessionOf(3, 5, 0)), one)
	// What is asked twice is done once; what is of nothing is replied to by 0, and what is elder by ErrOld.
	mustReplay(t, []impl.Entry{first, first}, impl.OK, machineOf(one, sessionOf(3, 5, 0)), one)
	mustReplay(t, []impl.Entry{first, first, {Term: 1}}, impl.OK, machineOf(one, sessionOf(3, 5, 0)), one)
	mustReplay(t, []impl.Entry{first, askedOf(1, 3, 4, weight)}, impl.ErrOld, machineOf(one, sessionOf(3, 5, 0)), one)
	// A command that has a code is kept by its client, and makes no version.
	taken := askedOf(2, 3, 6, backend)
	mustReplay(t, []impl.Entry{first, taken}, impl.ErrTaken, machineOf(one, sessionOf(3, 6, impl.ErrTaken)), one)
	mustReplay(t, []impl.Entry{first, taken, taken}, impl.ErrTaken, machineOf(one, sessionOf(3, 6, impl.ErrTaken)), one)
	mustReplay(t, []impl.Entry{first, taken, first}, impl.ErrOld, machineOf(one, sessionOf(3, 6, impl.ErrTaken)), one)
	mustReplay(t, []impl.Entry{first, taken, {Term: 2}}, impl.OK, machineOf(one, sessionOf(3, 6, impl.ErrTaken)), one)
	// Versions are told in order, whatever stands between the entries that gave them.
	heavier, serves := askedOf(1, 999, 1, weight), askedOf(1, 1, 1, vip)
	all := machineOf(three, sessionOf(1, 1, 0), sessionOf(3, 5, 0), sessionOf(999, 1, 0))
	mustReplay(t, []impl.Entry{first, heavier, serves}, impl.OK, all, one, two, three)
	mustReplay(t, []impl.Entry{{Term: 1}, first, {Term: 1}, first, heavier, first, heavier, serves, {Term: 4}, heavier}, impl.OK, all, one, two, three)
	// Terms may fall: entries are no log.
	mustReplay(t, []impl.Entry{{Term: 9}, first, {Term: 1}}, impl.OK, machineOf(one, sessionOf(3, 5, 0)), one)
}

func TestVersionsExpectTheOneThatThereIs(t *testing.T) {
	one, two, three := grown()
	backend, weight, vip := plainCmds()[0], cmdOf(impl.CmdWeight, 1, 3, 0, 7, 0), plainCmds()[4]
	backend.Expect, vip.Expect = 0, 2
	first, heavier, serves := askedOf(1, 3, 5, backend), askedOf(1, 4, 1, weight), askedOf(1, 5, 1, vip)
	sessions := []impl.Session{sessionOf(3, 5, 0), sessionOf(4, 1, 0), sessionOf(5, 1, 0)}
	mustReplay(t, []impl.Entry{first, heavier, serves}, impl.OK, machineOf(three, sessions...), one, two, three)
	// Too late, or too early: it is the code that is kept, though the same would be right later on.
	mustReplay(t, []impl.Entry{heavier, first, heavier}, impl.ErrOld, machineOf(one, sessionOf(3, 5, 0), sessionOf(4, 1, impl.ErrOld)), one)
	again := askedOf(1, 4, 2, weight)
	mustReplay(t, []impl.Entry{first, heavier, again}, impl.ErrOld, machineOf(two, sessionOf(3, 5, 0), sessionOf(4, 2, impl.ErrOld)), one, two)
}

// turns are so many entries that are done: they turn a backend up and down.
func turns(count int) []impl.Entry {
	list := []impl.Entry{askedOf(1, 7, 1, plainCmds()[0])}
	for i := int64(2); len(list) < count; i++ {
		list = append(list, askedOf(1, 7, i, cmdOf(impl.CmdUp, -1, 3, 0, i%2, 0)))
	}
	return list[:count]
}

func TestReplayEntriesOfAsManyAsThereMayBe(t *testing.T) {
	for _, count := range []int{1, 2, 199, 200} {
		all := impl.ReplayEntries(turns(count))
		versions := impl.VersionsOf(turns(count))
		if all.Code != impl.OK || all.Machine.Config.Version != int64(count) || len(versions.Configs) != count+1 {
			t.Errorf("%d entries make %s and %d versions", count, short(all), len(versions.Configs))
		}
		mustReplay(t, termsLog(evenTerms(count, 1)...), impl.OK, impl.Machine{})
	}
	for _, count := range []int{201, 202, 400, 5000} {
		mustNotReplay(t, turns(count), impl.ErrMany)
		mustNotReplay(t, termsLog(evenTerms(count, 1)...), impl.ErrMany)
		// Ahead of whatever is not right with them.
		mustNotReplay(t, make([]impl.Entry, count), impl.ErrMany)
		mustNotReplay(t, slices.Repeat([]impl.Entry{askedOf(1, 1, 1, impl.Cmd{})}, count), impl.ErrMany)
	}
}

func TestReplayEntriesOfAsManyClientsAsThereMayBe(t *testing.T) {
	var list []impl.Entry
	for i := range int64(40) {
		// Clients come in no order.
		list = append(list, askedOf(1, 1+i*7%40, 1, plainCmds()[0]))
	}
	got := impl.ReplayEntries(list)
	if got.Code != impl.OK || got.Reply != impl.ErrTaken || len(got.Machine.Sessions) != 40 || got.Machine.Config.Version != 1 {
		t.Errorf("40 clients make %s", short(got))
	}
	for i, session := range got.Machine.Sessions {
		if session != sessionOf(int64(i)+1, 1, told(i > 0, impl.ErrTaken)) {
			t.Errorf("session %d is %v", i, session)
		}
	}
	one, _, _ := grown()
	for _, more := range []impl.Entry{{Term: 1}, list[0], list[39]} {
		mustGive(t, impl.VersionsOf(append(list[:40:40], more)), impl.ConfigsResult{Configs: []impl.Config{{}, one}})
	}
	for _, client := range []int64{41, 999} {
		mustNotReplay(t, append(list[:40:40], askedOf(1, client, 1, plainCmds()[0])), impl.ErrMany)
		mustNotReplay(t, append(list[:40:40], askedOf(1, client, 1, plainCmds()[0]), impl.Entry{}), impl.ErrMany)
		mustNotReplay(t, append(list[:40:40], impl.Entry{}, askedOf(1, client, 1, plainCmds()[0])), impl.ErrRange)
	}
}

func TestReplayEntriesTellsTheFirstCode(t *testing.T) {
	far, odd := impl.Entry{Term: 100001}, impl.Entry{Term: 1, Client: 1}
	for place := range 200 {
		list := turns(200)
		list[place] = far
		mustNotReplay(t, list, impl.ErrRange)
		mustNotReplay(t, list[:place+1], impl.ErrRange)
		list[place] = odd
		mustNotReplay(t, list, impl.ErrForm)
		if place > 0 {
			list[place-1] = far
			mustNotReplay(t, list, impl.ErrRange)
			list[place-1], list[place] = odd, far
			mustNotReplay(t, list, impl.ErrForm)
		}
	}
	// An entry whose number was had already, or is elder, is asked for its fault all the same.
	first := askedOf(1, 3, 5, plainCmds()[0])
	mustNotReplay(t, []impl.Entry{first, askedOf(1, 3, 5, impl.Cmd{})}, impl.ErrForm)
	mustNotReplay(t, []impl.Entry{first, askedOf(1, 3, 4, cmdOf(impl.CmdUp, -1, 3, 0, 2, 0))}, impl.ErrRange)
	mustNotReplay(t, []impl.Entry{first, askedOf(0, 3, 5, plainCmds()[0])}, impl.ErrRange)
}

func TestReplayEntriesOfManyStories(t *testing.T) {
	codes := map[int64]int{}
	random := rand.New(rand.NewSource(115))
	for i, list := range manyStories(900) {
		if i%4 == 0 && len(list) > 0 {
			list = slices.Clone(list)
			spoilEntry(random, &list[random.Intn(len(list))])
		}
		got, want := impl.ReplayEntries(list), wantReplay(list)
		if !same(got, want) || !same(impl.VersionsOf(list), wantVersions(list)) {
			t.Fatalf("%s makes\n%s, not\n%s", short(list), short(got), short(want))
		}
		codes[got.Code]++
	}
	mustMeet(t, codes, 20, impl.OK, impl.ErrForm, impl.ErrMany, impl.ErrRange)
}
