package tests

import (
	"slices"
	"testing"

	"loop.example/g00222/impl"
)

// knownThree are three nodes of one log that know so many entries to be agreed, and seals of a term.
func knownThree(commits [3]int64, seals ...impl.Seal) impl.Cluster {
	c := loggedThree(markedLog(1, 1, 1, 3, 4), markedLog(1, 1, 1, 3, 4), markedLog(1, 1, 1, 3, 4))
	for id, commit := range commits {
		c.Nodes[id].Commit = commit
	}
	c.Seals = seals
	return c
}

func TestSealsThatAreKept(t *testing.T) {
	log := markedLog(1, 1, 1, 3, 4)
	for count := range int64(5) {
		seals := sealsOf(4, log[:count]...)
		for commit := range int64(5) {
			// A node that knows of more that is agreed than there are seals keeps none.
			var wrong []string
			if commit > count {
				wrong = []string{"SealsKept"}
			}
			mustLack(t, knownThree([3]int64{commit, 0, 0}, seals...), wrong...)
			mustLack(t, knownThree([3]int64{0, commit, 0}, seals...), wrong...)
			mustLack(t, knownThree([3]int64{count, 0, commit}, seals...), wrong...)
		}
	}
	// In which term it became known is not asked, nor whether the terms rise.
	mustLack(t, knownThree([3]int64{2, 1, 0}, impl.Seal{Term: 100000, Entry: log[0]}, impl.Seal{Term: 1, Entry: log[1]}))
	mustLack(t, newThree())
	mustLack(t, clusterWith(newThree(), func(c *impl.Cluster) { c.Seals = sealsOf(9, log...) }))
}

func TestSealsThatAreNotKept(t *testing.T) {
	log := markedLog(1, 1, 1, 3, 4)
	others := []impl.Entry{askedOf(1, 2, 1, log[0].Cmd), askedOf(1, 1, 9, log[0].Cmd), askedOf(1, 1, 1, plainCmds()[7]), askedOf(2, 1, 1, log[0].Cmd), {Term: 1}}
	for place := range int64(4) {
		for _, x := range others {
			seals := sealsOf(4, log...)
			seals[place].Entry = x
			for commit := range int64(5) {
				var wrong []string
				if commit > place {
					wrong = []string{"SealsKept"}
				}
				for id := range 3 {
					commits := [3]int64{}
					commits[id] = commit
					mustLack(t, knownThree(commits, seals...), wrong...)
				}
			}
		}
	}
	// The same ones in another order, and what was sealed ahead of them.
	mustLack(t, knownThree([3]int64{2}, sealsOf(4, log[1], log[0])...), "SealsKept")
	mustLack(t, knownThree([3]int64{2}, sealsOf(4, impl.Entry{Term: 1}, log[0], log[1])...), "SealsKept")
	mustLack(t, knownThree([3]int64{2}, sealsOf(4, log[0], log[0], log[1])...), "SealsKept")
	// One of five, whichever it is.
	for id := range 5 {
		c := impl.Cluster{Nodes: shaped(shape{}, greatCluster().Nodes), Seals: greatCluster().Seals}
		mustLack(t, c)
		c.Nodes[id].Log[39] = askedOf(100000, 9, 9, plainCmds()[0])
		if id != 3 {
			mustLack(t, c, "LogsMatch", "SealsKept")
		} else {
			mustLack(t, c, "LogsMatch", "SealsKept", "LeadersHave")
		}
		c.Nodes[id].Log, c.Nodes[id].Commit = c.Nodes[id].Log[:39], 39
		if id != 3 {
			mustLack(t, c)
		}
		c.Seals = c.Seals[:39]
		if id != 3 {
			mustLack(t, c, "SealsKept")
		}
	}
}

// leadsWith are three nodes of which one leads in a term with a log, and seals.
func leadsWith(id, term int64, log []impl.Entry, seals ...impl.Seal) impl.Cluster {
	c := loggedThree()
	c.Nodes[id] = nodeWith(leaderOf(id, term), func(n *impl.Node) { n.Log = log })
	c.Seals = seals
	return c
}

func TestWhoLeadsHasWhatIsSealed(t *testing.T) {
	log := markedLog(1, 1, 1, 3, 4)
	for id := range int64(3) {
		for count := range 5 {
			for has := range 5 {
				// One that leads with less than was sealed up to its term lacks it.
				var wrong []string
				if has < count {
					wrong = []string{"LeadersHave"}
				}
				mustLack(t, leadsWith(id, 7, log[:has], sealsOf(7, log[:count]...)...), wrong...)
				mustLack(t, leadsWith(id, 7, log[:has], sealsOf(4, log[:count]...)...), wrong...)
				mustLack(t, leadsWith(id, 100000, log[:has], sealsOf(6, log[:count]...)...), wrong...)
				// Of what was sealed in a later one it may have nothing.
				mustLack(t, leadsWith(id, 7, log[:has], sealsOf(8, log[:count]...)...))
				mustLack(t, leadsWith(id, 4, log[:has], sealsOf(100000, log[:count]...)...))
			}
		}
	}
}

func TestSealsOfElderTermsAndOfLaterOnesBesideWhoLeads(t *testing.T) {
	log := markedLog(1, 1, 1, 3, 4)
	// Each seal by itself, in its place.
	for term := int64(4); term <= 9; term++ {
		for place := range 4 {
			seals := []impl.Seal{{Term: 5, Entry: log[0]}, {Term: 5, Entry: log[1]}, {Term: 8, Entry: log[2]}, {Term: 6, Entry: log[3]}}
			mustLack(t, leadsWith(1, term, log, seals...))
			seals[place].Entry = askedOf(1, 7, 7, plainCmds()[3])
			if seals[place].Term <= term {
				mustLack(t, leadsWith(1, term, log, seals...), "LeadersHave")
			} else {
				mustLack(t, leadsWith(1, term, log, seals...))
			}
		}
		// One that ends ahead of the last seal, of term 6, and of one of a later term.
		seals := []impl.Seal{{Term: 5, Entry: log[0]}, {Term: 5, Entry: log[1]}, {Term: 8, Entry: log[2]}, {Term: 6, Entry: log[3]}}
		var wrong []string
		if term >= 6 {
			wrong = []string{"LeadersHave"}
		}
		mustLack(t, leadsWith(1, term, log[:2], seals...), wrong...)
		mustLack(t, leadsWith(1, term, log[:3], seals...), wrong...)
	}
	// It has them, but elsewhere.
	mustLack(t, leadsWith(0, 9, log, sealsOf(5, log[1], log[0])...), "LeadersHave")
	mustLack(t, leadsWith(0, 9, log, sealsOf(5, log[1])...), "LeadersHave")
	mustLack(t, leadsWith(0, 9, log, impl.Seal{Term: 10, Entry: log[0]}, impl.Seal{Term: 5, Entry: log[0]}), "LeadersHave")
	mustLack(t, leadsWith(0, 9, log, impl.Seal{Term: 10, Entry: log[3]}, impl.Seal{Term: 5, Entry: log[1]}))
}

func TestLeadersHaveAsksForWhoLeadsAlone(t *testing.T) {
	log := markedLog(1, 1, 1, 3, 4)
	lacks := leadsWith(0, 9, log, sealsOf(5, log...)...)
	mustLack(t, lacks)
	// Others lack it, who follow, who ask for votes, or who led.
	lacks.Nodes[1], lacks.Nodes[2] = askerOf(1, 100000), followerOf(2, 100000, 2)
	mustLack(t, lacks)
	for id := range int64(3) {
		c := clusterWith(lacks, nodeOff(int(id), func(n *impl.Node) { *n = leaderOf(id, 9) }))
		mustLack(t, c, "LeadersHave")
		mustLack(t, stands(t, impl.CrashAt(c, id)))
	}
	// What it knows itself to be agreed is not asked.
	mustLack(t, clusterWith(lacks, func(c *impl.Cluster) { c.Nodes[0].Commit, c.Seals = 4, nil }), "SealsKept")
}

func TestWhoLeadsInAnElderTermMayLackWhatIsSealedSince(t *testing.T) {
	log := markedLog(1, 1, 1, 3, 4)
	// It leads in term 3 with what it has; another one leads in term 4, in which all is sealed.
	both := clusterOf(leaderOf(0, 3, 1, 1, 3), followerOf(1, 4, 2, 1, 1, 3, 4), leaderOf(2, 4, 1, 1, 3, 4))
	later := append(slices.Clone(log[:2]), termsLog(4, 4)...)
	both.Nodes[0].Log = append(slices.Clone(log[:2]), impl.Entry{Term: 3})
	both.Nodes[1].Log, both.Nodes[2].Log = later, slices.Clone(later)
	both.Wins = []impl.Won{{Term: 3, Node: 0}, {Term: 4, Node: 2}}
	both.Seals = append(sealsOf(3, log[:2]...), sealsOf(4, later[2:]...)...)
	mustLack(t, both)
	mustBeLed(t, both, impl.OK, 2)
	// What was sealed in its own term, or ahead of it, it must have.
	for _, term := range []int64{1, 2, 3} {
		for place := 2; place < 4; place++ {
			mustLack(t, clusterWith(both, func(c *impl.Cluster) { c.Seals[place].Term = term }), "LeadersHave")
		}
	}
	// And so must who leads in the later one.
	mustLack(t, clusterWith(both, func(c *impl.Cluster) { c.Nodes[2].Log[2] = impl.Entry{Term: 3} }), "LogsMatch", "LeadersHave")
	mustLack(t, clusterWith(both, func(c *impl.Cluster) {
		c.Nodes[2].Log, c.Nodes[2].Next, c.Nodes[2].Match = c.Nodes[2].Log[:3], evenTerms(3, 1), evenTerms(3, 0)
	}), "LeadersHave")
}
