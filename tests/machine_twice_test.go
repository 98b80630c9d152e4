package tests

import (
	"math/rand"
	"slices"
	"testing"

	"loop.example/g00222/impl"
)

// appliedAll does entries one behind the other, and wants none of them to have a code.
func appliedAll(t *testing.T, m impl.Machine, list []impl.Entry) (impl.Machine, []impl.MachineResult) {
	t.Helper()
	var all []impl.MachineResult
	for _, x := range list {
		done := impl.ApplyEntry(m, x)
		if done.Code != impl.OK {
			t.Fatalf("%v is not done to %s: %d", x, short(m), done.Code)
		}
		m = done.Machine
		all = append(all, done)
	}
	return m, all
}

// soundStories gives stories that can be done as a whole.
func soundStories(count int) [][]impl.Entry {
	return slices.DeleteFunc(manyStories(count), func(list []impl.Entry) bool { return wantReplay(list).Code != impl.OK })
}

func TestWhatIsAskedTwiceIsDoneOnce(t *testing.T) {
	for _, list := range soundStories(200) {
		m := impl.Machine{}
		for _, x := range list {
			first := impl.ApplyEntry(m, x)
			m = first.Machine
			for range 2 {
				// In another term, too: who leads may have changed ahead of the second time.
				x.Term++
				if x.Term > 100000 {
					x.Term = 1
				}
				mustStay(t, m, x, first.Reply)
			}
			if first.Fresh {
				mustReplyOf(t, m, x.Client, x.Seq, impl.OK, first.Reply)
			}
		}
	}
}

func TestWhatIsAskedTwiceGetsTheSameReplyWhateverCameSince(t *testing.T) {
	kept := 0
	for _, list := range soundStories(200) {
		_, all := appliedAll(t, impl.Machine{}, list)
		m := impl.ReplayEntries(list).Machine
		for i, x := range list {
			later := slices.ContainsFunc(list, func(other impl.Entry) bool { return other.Client == x.Client && other.Seq > x.Seq })
			switch {
			case x.Client == 0:
				mustStay(t, m, x, impl.OK)
			case later:
				// The client went on, and knows what it was replied.
				mustStay(t, m, x, impl.ErrOld)
				mustReplyOf(t, m, x.Client, x.Seq, impl.ErrOld, 0)
			default:
				mustStay(t, m, x, all[i].Reply)
				mustReplyOf(t, m, x.Client, x.Seq, impl.OK, all[i].Reply)
				kept++
			}
		}
	}
	if kept < 500 {
		t.Errorf("only %d entries were the last of their clients", kept)
	}
}

func TestEntriesThatComeTwiceMakeWhatTheyMakeOnce(t *testing.T) {
	random := rand.New(rand.NewSource(117))
	for _, list := range soundStories(300) {
		if len(list) == 0 || len(list) > 100 {
			continue
		}
		once := impl.ReplayEntries(list).Machine
		var twice, late []impl.Entry
		for i, x := range list {
			twice = append(twice, x, x)
			late = append(late, x, list[random.Intn(i+1)])
		}
		for _, other := range [][]impl.Entry{twice, slices.Concat(list, list), late} {
			got := impl.ReplayEntries(other)
			if got.Code != impl.OK || !impl.SameMachines(got.Machine, once) || !same(impl.VersionsOf(other), impl.VersionsOf(list)) {
				t.Fatalf("%s makes %s, and of entries twice %s", short(list), short(once), short(got))
			}
		}
	}
}

func TestEntriesInTwoPartsAreAsIfInOne(t *testing.T) {
	random := rand.New(rand.NewSource(118))
	for _, list := range soundStories(400) {
		whole := impl.ReplayEntries(list)
		versions := impl.VersionsOf(list).Configs
		for range 4 {
			cut := random.Intn(len(list) + 1)
			first := impl.ReplayEntries(list[:cut])
			m, all := appliedAll(t, first.Machine, list[cut:])
			if !impl.SameMachines(m, whole.Machine) {
				t.Fatalf("%s in two parts makes %s, not %s", short(list), short(m), short(whole))
			}
			reply, known := first.Reply, impl.VersionsOf(list[:cut]).Configs
			for _, done := range all {
				reply = done.Reply
				if done.Fresh && done.Reply == impl.OK {
					known = append(known, done.Machine.Config)
				}
			}
			if reply != whole.Reply || !same(known, versions) {
				t.Fatalf("%s in two parts has the last reply %d and the versions %s", short(list), reply, short(known))
			}
		}
	}
}

func TestEachVersionIsOneOn(t *testing.T) {
	count := 0
	for _, list := range soundStories(400) {
		versions := impl.VersionsOf(list).Configs
		last := impl.ReplayEntries(list).Machine.Config
		for place, c := range versions {
			if c.Version != int64(place) || impl.ConfigFault(c) != impl.OK {
				t.Fatalf("version %d of %s is %s", place, short(list), short(c))
			}
		}
		if !impl.SameConfigs(versions[0], impl.Config{}) || !impl.SameConfigs(versions[len(versions)-1], last) {
			t.Fatalf("the versions of %s are %s, and the last one is %s", short(list), short(versions), short(last))
		}
		count += len(versions)
	}
	if count < 1200 {
		t.Errorf("there are only %d versions", count)
	}
}

func TestEachVersionIsWhatTheCommandsThatWereDoneMake(t *testing.T) {
	for _, list := range soundStories(300) {
		_, all := appliedAll(t, impl.Machine{}, list)
		c, versions := impl.Config{}, impl.VersionsOf(list).Configs
		for i, done := range all {
			if done.Fresh && done.Reply == impl.OK {
				c = mustApply(t, c, list[i].Cmd)
				mustGive(t, versions[c.Version], c)
			}
		}
	}
}

func TestWhatAClusterAgreesOnIsDoneOnce(t *testing.T) {
	// A client asks who leads, hears nothing, and asks the next one who leads.
	random := rand.New(rand.NewSource(119))
	c := spreadAmong(t, votesAmong(t, newThree(), 0, 1, 1, 2), 0, 1, 2)
	c = safely(t, impl.AskAt(c, 0, 3, 5, plainCmds()[0]))
	c = allCome(t, random, safely(t, impl.SpreadAt(c, 0)))
	c = votesAmong(t, c, 1, 2, 0, 2)
	c = safely(t, impl.AskAt(c, 1, 3, 5, plainCmds()[0]))
	c = allCome(t, random, safely(t, impl.SpreadAt(c, 1)))
	agreed := impl.AgreedOf(c).Entries
	one, _, _ := grown()
	mustHold(t, agreed, []impl.Entry{askedOf(1, 3, 5, plainCmds()[0]), askedOf(2, 3, 5, plainCmds()[0])})
	mustReplay(t, agreed, impl.OK, machineOf(one, sessionOf(3, 5, impl.OK)), one)
}
