package tests

import (
	"cmp"
	"maps"
	"math/rand"
	"reflect"
	"slices"
	"testing"

	"loop.example/g00222/impl"
)

func sessionOf(client, seq, code int64) impl.Session {
	return impl.Session{Client: client, Seq: seq, Code: code}
}

func machineOf(c impl.Config, sessions ...impl.Session) impl.Machine {
	return impl.Machine{Config: c, Sessions: sessions}
}

// machineWith gives a copy of a machine with something turned.
func machineWith(m impl.Machine, do func(m *impl.Machine)) impl.Machine {
	m = shaped(shape{}, m)
	do(&m)
	return m
}

// plainMachine has sessions with and without a code, and of the least and the greatest numbers.
func plainMachine() impl.Machine {
	return machineOf(plainConfig(), sessionOf(2, 1, impl.OK), sessionOf(3, 5, impl.ErrTaken), sessionOf(500, 77, impl.OK), sessionOf(998, 1000000, impl.ErrState))
}

// fullMachine has as many of all as there may be, and all numbers at their least or their greatest.
func fullMachine() impl.Machine {
	m := machineOf(fullConfig())
	for i := range int64(40) {
		m.Sessions = append(m.Sessions, sessionOf(1+i+i/20*959, []int64{1, 1000000}[i%2], []int64{0, 10}[i/2%2]))
	}
	return m
}

// crowdedMachine has the plain configuration and so many sessions, of every second client from 2 on.
func crowdedMachine(count int64) impl.Machine {
	m := machineOf(plainConfig())
	for i := range count {
		m.Sessions = append(m.Sessions, sessionOf(2+2*i, 5, i%11))
	}
	return m
}

// someMachine gives a machine without a fault.
func someMachine(random *rand.Rand) impl.Machine {
	m := machineOf(someConfig(random))
	if m.Config.Version == 1000000 && random.Intn(4) > 0 {
		m.Config.Version = 7
	}
	clients := random.Perm(999)[:[]int{0, 1, 3, 9, 39, 40}[random.Intn(6)]]
	slices.Sort(clients)
	for _, client := range clients {
		m.Sessions = append(m.Sessions, sessionOf(int64(client)+1, 1+someUpTo(random, 999999), random.Int63n(11)))
	}
	return m
}

// manyMachines gives machines without a fault: known ones, one of nothing, the greatest, and some of all kinds.
func manyMachines(count int) []impl.Machine {
	random := rand.New(rand.NewSource(110))
	list := []impl.Machine{{}, {Sessions: []impl.Session{}}, plainMachine(), fullMachine(), crowdedMachine(39), crowdedMachine(40)}
	for range count {
		list = append(list, someMachine(random))
	}
	return list
}

// spoilMachine breaks one thing of a machine, or hits none.
func spoilMachine(random *rand.Rand, m *impl.Machine) {
	wrong := func(list ...int64) int64 { return append(list, farNumbers...)[random.Intn(len(list)*3)] }
	if len(m.Sessions) == 0 || random.Intn(8) == 0 {
		spoilConfig(random, &m.Config)
		return
	}
	session := &m.Sessions[random.Intn(len(m.Sessions))]
	switch random.Intn(6) {
	case 0:
		session.Client = wrong(0, 1000)
	case 1:
		session.Seq = wrong(0, 1000001)
	case 2:
		session.Code = wrong(-1, 11)
	case 3:
		session.Client = m.Sessions[random.Intn(len(m.Sessions))].Client
	case 4:
		slices.Reverse(m.Sessions)
	case 5:
		m.Sessions = append(m.Sessions, m.Sessions...)
	}
}

// manyBadMachines gives machines of which nearly all have one fault or several.
func manyBadMachines(count int) []impl.Machine {
	random := rand.New(rand.NewSource(111))
	var list []impl.Machine
	for i := range count {
		m := shaped(shape{}, []impl.Machine{plainMachine(), fullMachine(), someMachine(random)}[i%3])
		for range 1 + i%4 {
			spoilMachine(random, &m)
		}
		list = append(list, m)
	}
	return list
}

// wantMachineFault gathers what each session has, and takes the first code.
func wantMachineFault(m impl.Machine) int64 {
	codes := []int64{wantConfigFault(m.Config), told(len(m.Sessions) > 40, impl.ErrMany)}
	for i, s := range m.Sessions {
		off := outside(s.Client, 1, 999) || outside(s.Seq, 1, 1000000) || outside(s.Code, 0, 10)
		codes = append(codes, told(off, impl.ErrRange), told(i > 0 && m.Sessions[max(i, 1)-1].Client >= s.Client, impl.ErrForm))
	}
	return cmp.Or(codes...)
}

// wantApplyEntry parts the session of the client from the others. Who has none asked as its 0th last.
func wantApplyEntry(m impl.Machine, x impl.Entry) impl.MachineResult {
	if code := cmp.Or(wantMachineFault(m), wantEntryFault(x)); code != impl.OK {
		return impl.MachineResult{Code: code}
	}
	var kept impl.Session
	var others []impl.Session
	for _, s := range m.Sessions {
		if s.Client == x.Client {
			kept = s
		} else {
			others = append(others, s)
		}
	}
	switch {
	case x.Client == 0:
		return impl.MachineResult{Machine: m}
	case kept.Seq > x.Seq:
		return impl.MachineResult{Reply: impl.ErrOld, Machine: m}
	case kept.Seq == x.Seq:
		return impl.MachineResult{Reply: kept.Code, Machine: m}
	case len(others) > 39:
		return impl.MachineResult{Code: impl.ErrMany}
	}
	reply, c := wantApply(m.Config, x.Cmd)
	if reply != impl.OK {
		c = m.Config
	}
	return impl.MachineResult{Reply: reply, Fresh: true, Machine: machineOf(c, inOrder(append(others, sessionOf(x.Client, x.Seq, reply)))...)}
}

func inOrder(sessions []impl.Session) []impl.Session {
	return slices.SortedFunc(slices.Values(sessions), func(a, b impl.Session) int { return cmp.Compare(a.Client, b.Client) })
}

// happened is what came of one of several entries, and the configuration that there was then.
type happened struct {
	fresh  bool
	reply  int64
	config impl.Config
}

// wantHappened tells what came of each entry, from nothing on, by looking back at those ahead of it: nothing else is kept.
func wantHappened(list []impl.Entry) (int64, []happened) {
	if len(list) > 200 {
		return impl.ErrMany, nil
	}
	var all []happened
	var c impl.Config
	clients := map[int64]bool{}
	for i, x := range list {
		if code := wantEntryFault(x); code != impl.OK {
			return code, nil
		}
		one := happened{config: c}
		first := slices.IndexFunc(list, func(other impl.Entry) bool { return other.Client == x.Client && other.Seq >= x.Seq })
		switch {
		case x.Client == 0:
		case first == i:
			clients[x.Client] = true
			code, next := wantApply(c, x.Cmd)
			one.fresh, one.reply = true, code
			if code == impl.OK {
				c, one.config = next, next
			}
		case slices.ContainsFunc(list[:i], func(other impl.Entry) bool { return other.Client == x.Client && other.Seq > x.Seq }):
			one.reply = impl.ErrOld
		default:
			one.reply = all[first].reply
		}
		if len(clients) > 40 {
			return impl.ErrMany, nil
		}
		all = append(all, one)
	}
	return impl.OK, all
}

func wantReplay(list []impl.Entry) impl.MachineResult {
	code, all := wantHappened(list)
	if code != impl.OK || len(list) == 0 {
		return impl.MachineResult{Code: code}
	}
	last := all[len(all)-1]
	sessions := map[int64]impl.Session{}
	for i, x := range list {
		if all[i].fresh {
			sessions[x.Client] = sessionOf(x.Client, x.Seq, all[i].reply)
		}
	}
	return impl.MachineResult{Reply: last.reply, Machine: machineOf(last.config, inOrder(slices.Collect(maps.Values(sessions)))...)}
}

func wantVersions(list []impl.Entry) impl.ConfigsResult {
	code, all := wantHappened(list)
	if code != impl.OK {
		return impl.ConfigsResult{Code: code}
	}
	configs := []impl.Config{{}}
	for _, one := range all {
		if one.fresh && one.reply == impl.OK {
			configs = append(configs, one.config)
		}
	}
	return impl.ConfigsResult{Configs: configs}
}

// same holds two answers against each other; no list and an empty one are the same.
func same[T any](a, b T) bool {
	return reflect.DeepEqual(shaped(shape{}, a), shaped(shape{}, b))
}

// mustGive wants an answer.
func mustGive[T any](t *testing.T, got, want T) {
	t.Helper()
	if !same(got, want) {
		t.Errorf("got\n%s, not\n%s", short(got), short(want))
	}
}

func mustMachine(t *testing.T, m impl.Machine, want int64) {
	t.Helper()
	if code := impl.MachineFault(m); code != want {
		t.Errorf("the fault of the machine %s is %d, not %d", short(m), code, want)
	}
}

// someStory gives entries without a fault of so many clients: new ones, some asked again, of an elder number, or of nothing.
func someStory(random *rand.Rand, count, clients int) []impl.Entry {
	var list []impl.Entry
	var m impl.Machine
	for len(list) < count {
		x := someCmd(random, m.Config)
		// What is refused is not to be what happens most.
		if code, _ := wantApply(m.Config, x); wantCmdFault(x) != impl.OK || code != impl.OK && random.Intn(4) > 0 {
			continue
		}
		one := askedOf(1+random.Int63n(3), 1+random.Int63n(int64(clients)), 1+random.Int63n(4)+int64(len(list)/4), x)
		switch random.Intn(6) {
		case 0:
			one = impl.Entry{Term: 1 + random.Int63n(100000)}
		case 1:
			if len(list) > 0 {
				one = list[random.Intn(len(list))]
			}
		}
		list = append(list, one)
		if done := wantApplyEntry(m, one); done.Code == impl.OK {
			m = done.Machine
		}
	}
	return list
}

// manyStories gives stories of all lengths, none among them, and of few clients and of many.
func manyStories(count int) [][]impl.Entry {
	random := rand.New(rand.NewSource(112))
	stories := [][]impl.Entry{nil, {}, plainLog(), fullLog(), termsLog(evenTerms(200, 7)...)}
	for i := range count {
		stories = append(stories, someStory(random, random.Intn([]int{6, 20, 99}[i%3]), []int{1, 3, 999}[i/3%3]))
	}
	return stories
}

func TestMachineHelpersAgreeWithEachOther(t *testing.T) {
	for _, m := range manyMachines(400) {
		if wantMachineFault(m) != impl.OK {
			t.Fatalf("%s is not without a fault", short(m))
		}
	}
	codes := map[int64]int{}
	for _, m := range manyBadMachines(4000) {
		codes[wantMachineFault(m)]++
	}
	mustMeet(t, codes, 100, impl.ErrForm, impl.ErrMany, impl.ErrRange)
	replies, again, versions := map[int64]int{}, 0, 0
	for _, list := range manyStories(300) {
		// What looks back at all, and what keeps sessions, come to the same.
		code, all := wantHappened(list)
		m := impl.Machine{}
		for i, x := range list {
			done := wantApplyEntry(m, x)
			if code == impl.ErrMany {
				break
			}
			if done.Code != impl.OK || done.Fresh != all[i].fresh || done.Reply != all[i].reply || !same(done.Machine.Config, all[i].config) {
				t.Fatalf("entry %d of %s gives %s", i, short(list), short(done))
			}
			m = done.Machine
			replies[done.Reply]++
			if !done.Fresh && x.Client > 0 && done.Reply != impl.ErrOld {
				again++
			}
		}
		if code == impl.OK && !same(wantReplay(list).Machine, m) {
			t.Fatalf("%s makes %s", short(list), short(m))
		}
		versions += len(wantVersions(list).Configs)
	}
	mustMeet(t, replies, 40, impl.OK, impl.ErrOld, impl.ErrNone, impl.ErrTaken, impl.ErrState)
	if again < 300 || versions < 1000 {
		t.Errorf("%d entries were asked again, and there are %d versions", again, versions)
	}
}
