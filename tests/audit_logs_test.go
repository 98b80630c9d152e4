package tests

import (
	"slices"
	"testing"

	"loop.example/g00222/impl"
)

// loggedThree are three nodes that follow, with such logs.
func loggedThree(logs ...[]impl.Entry) impl.Cluster {
	c := newThree()
	for id, log := range logs {
		c.Nodes[id].Term, c.Nodes[id].Log = 100000, log
	}
	return c
}

// mustMatch wants two logs to match, or not, whichever two of three or of five nodes have them.
func mustMatch(t *testing.T, a, b []impl.Entry, want bool) {
	t.Helper()
	var wrong []string
	if !want {
		wrong = []string{"LogsMatch"}
	}
	for _, peers := range []int64{2, 3, 5} {
		for one := range peers {
			for other := range peers {
				if one == other {
					continue
				}
				c := impl.NewCluster(peers).Cluster
				c.Nodes[one].Term, c.Nodes[one].Log = 100000, a
				c.Nodes[other].Term, c.Nodes[other].Log = 100000, b
				mustLack(t, c, wrong...)
			}
		}
	}
}

func TestLogsThatMatch(t *testing.T) {
	log := markedLog(1, 1, 1, 2, 5)
	mustMatch(t, nil, nil, true)
	mustMatch(t, log, log, true)
	for count := range 5 {
		mustMatch(t, log, log[:count], true)
	}
	mustMatch(t, fullLog(), fullLog(), true)
	// They part behind an entry that they have in common, and each goes on in terms of its own.
	mustMatch(t, log, append(slices.Clone(log[:1]), markedLog(2, 4, 4, 4)...), true)
	mustMatch(t, log, append(slices.Clone(log[:3]), markedLog(2, 4)...), true)
	mustMatch(t, log, append(slices.Clone(log[:2]), markedLog(2, 3, 3, 6, 7)...), true)
	// They part at once.
	mustMatch(t, log, markedLog(2, 2, 3, 3, 3), true)
	mustMatch(t, markedLog(1, 1), markedLog(2, 2), true)
	// One has at another index what the other one has.
	mustMatch(t, termsLog(1, 2, 3), termsLog(1, 3), true)
	mustMatch(t, termsLog(1, 2, 2, 3), termsLog(1, 3, 3), true)
	mustMatch(t, termsLog(1, 2, 3, 4, 5), termsLog(2, 3, 4, 5), true)
	// What would be of one term stands where the other one has nothing any more.
	mustMatch(t, termsLog(1, 2, 4), termsLog(1, 3), true)
}

func TestLogsThatDoNotMatch(t *testing.T) {
	// An entry of one index and term that is not the same.
	mustMatch(t, markedLog(1, 1), markedLog(2, 1), false)
	mustMatch(t, markedLog(1, 3, 3), markedLog(1, 3, 3, 3)[1:], false)
	mustMatch(t, termsLog(1), markedLog(1, 1), false)
	// The entries of one index and term are the same, but ahead of them the logs part: in a term, or within one.
	mustMatch(t, termsLog(1, 2, 4), termsLog(1, 3, 4), false)
	mustMatch(t, termsLog(1, 4), termsLog(2, 4), false)
	mustMatch(t, termsLog(1, 2, 2, 4, 5), termsLog(1, 3, 3, 4), false)
	mustMatch(t, append(markedLog(1, 1), termsLog(1, 2)...), append(markedLog(2, 1), termsLog(1, 2)...), false)
	// They part for good behind it, or not at all.
	mustMatch(t, termsLog(1, 4, 5), termsLog(2, 4, 6), false)
	mustMatch(t, termsLog(1, 4, 5, 5), termsLog(2, 4, 6, 7), false)
	// What is the same further ahead helps nothing.
	mustMatch(t, termsLog(1, 1, 2, 4), termsLog(1, 1, 3, 4), false)
}

func TestLogsMatchAsksForEachFieldOfEachEntry(t *testing.T) {
	other := []impl.Entry{askedOf(7, 2, 1, plainCmds()[4]), askedOf(7, 1, 2, plainCmds()[4]), askedOf(7, 1, 1, plainCmds()[5]), {Term: 7}}
	for i := range 4 {
		x := plainCmds()[4]
		*fieldsOf(&x)[i]++
		if impl.CmdFault(x) == impl.OK {
			other = append(other, askedOf(7, 1, 1, x))
		}
	}
	versioned := plainCmds()[4]
	versioned.Expect = 0
	other = append(other, askedOf(7, 1, 1, versioned))
	base := slices.Repeat([]impl.Entry{askedOf(7, 1, 1, plainCmds()[4])}, 40)
	for _, place := range []int{0, 1, 20, 38, 39} {
		for _, x := range other {
			log := slices.Clone(base)
			log[place] = x
			mustLack(t, loggedThree(base, log), "LogsMatch")
			mustLack(t, loggedThree(base, nil, log), "LogsMatch")
			mustLack(t, loggedThree(nil, base[:place+1], log), "LogsMatch")
			mustLack(t, loggedThree(base, log[:place+1]), "LogsMatch")
			// Where it stands the shorter one has nothing any more.
			mustLack(t, loggedThree(base[:place], log, base[:place]))
		}
	}
}

func TestLogsMatchAsksWhateverTheNodesAre(t *testing.T) {
	// Who leads, who asks and who follows; whatever they know to be agreed, and whatever their terms are.
	for _, role := range []impl.Node{followerOf(2, 9, 1, 1, 3, 4), askerOf(2, 9, 1, 3, 4), leaderOf(2, 9, 1, 3, 4), followerOf(2, 4, -1, 1, 3, 4)} {
		c := clusterOf(followerOf(0, 4, -1), followerOf(1, 100000, -1, 1, 3, 4), role)
		mustLack(t, c)
		c.Nodes[1].Log = markedLog(1, 1, 2, 4)
		mustLack(t, c, "LogsMatch")
	}
	// Two that match a third one need not match each other.
	mustLack(t, loggedThree(termsLog(1, 2, 4), nil, termsLog(1, 3, 4)), "LogsMatch")
	mustLack(t, loggedThree(termsLog(1, 2, 4), termsLog(1), termsLog(1, 3, 4)), "LogsMatch")
	mustLack(t, loggedThree(termsLog(1), termsLog(1, 2, 4), termsLog(1, 3, 4)), "LogsMatch")
	// A log is not held against mails or seals.
	mustLack(t, clusterWith(loggedThree(termsLog(1, 2)), func(c *impl.Cluster) {
		c.Mails, c.Seals = []impl.Mail{appendOf(1, 0, 9, 0, 0, 0, markedLog(1, 1, 2))}, sealsOf(3, markedLog(2, 1, 2)...)
	}))
}

func TestLogsMatchOfAllShortLogs(t *testing.T) {
	// All logs of up to three entries of which there are four.
	kinds := []impl.Entry{{Term: 1}, askedOf(1, 1, 1, plainCmds()[0]), {Term: 2}, askedOf(2, 1, 1, plainCmds()[0])}
	logs := [][]impl.Entry{nil}
	for from := 0; from < len(logs); from++ {
		for _, x := range kinds {
			if len(logs[from]) < 3 && wantLast(logs[from]) <= x.Term {
				logs = append(logs, append(slices.Clone(logs[from]), x))
			}
		}
	}
	matching := 0
	for _, a := range logs {
		for _, b := range logs {
			c := loggedThree(a, nil, b)
			want := wantLogsMatch(c)
			if impl.LogsMatch(c) != want {
				t.Fatalf("that %v and %v match is not told to be %v", a, b, want)
			}
			if want {
				matching++
			}
		}
	}
	if len(logs) < 40 || matching < 300 || matching > len(logs)*len(logs)/2 {
		t.Errorf("of %d logs %d pairs match", len(logs), matching)
	}
}
