package tests

import (
	"slices"
	"testing"

	"loop.example/g00222/impl"
)

func mustCluster(t *testing.T, c impl.Cluster, want int64) {
	t.Helper()
	if code := impl.ClusterFault(c); code != want {
		t.Errorf("the fault of the cluster %s is %d, not %d", short(c), code, want)
	}
}

func TestClusterFaultOfWhatHasNone(t *testing.T) {
	for _, c := range manyClusters(1500) {
		mustCluster(t, c, impl.OK)
	}
	// Wins are in any order, one twice, and two of one term; seals are of any terms, and of entries that nobody has.
	mustCluster(t, clusterWith(newThree(), func(c *impl.Cluster) {
		c.Wins = []impl.Won{{Term: 9, Node: 2}, {Term: 1, Node: 0}, {Term: 1, Node: 1}, {Term: 1, Node: 1}, {Term: 100000, Node: 2}}
		c.Seals = []impl.Seal{{Term: 9, Entry: impl.Entry{Term: 100000}}, {Term: 1, Entry: askedOf(3, 1, 1, plainCmds()[0])}, {Term: 100000, Entry: impl.Entry{Term: 1}}}
	}), impl.OK)
	// Two may lead in one term, and know that something else is agreed.
	mustCluster(t, clusterOf(leaderOf(0, 5, 1, 2), nodeWith(leaderOf(1, 5, 5), func(n *impl.Node) { n.Commit = 1 }), askerOf(2, 100000, 7)), impl.OK)
	// A mail may tell a node of what it never sent, in a term that it never had, and stand there often.
	mustCluster(t, clusterWith(newThree(), func(c *impl.Cluster) {
		c.Mails = slices.Repeat([]impl.Mail{takenOf(1, 2, 100000, true, 40), appendOf(2, 1, 1, 40, 1, 40, nil)}, 40)
	}), impl.OK)
}

func TestClusterFaultOfHowManyThereAre(t *testing.T) {
	mustCluster(t, impl.Cluster{}, impl.ErrMany)
	mustCluster(t, impl.Cluster{Nodes: []impl.Node{}}, impl.ErrMany)
	for peers := int64(1); peers <= 7; peers++ {
		var nodes []impl.Node
		for id := range peers {
			nodes = append(nodes, impl.Node{Id: id, Peers: peers, Voted: -1})
		}
		mustCluster(t, clusterOf(nodes...), told(peers > 5, impl.ErrMany))
	}
	for _, count := range []int{79, 80, 81, 82, 160} {
		mustCluster(t, clusterWith(newThree(), func(c *impl.Cluster) { c.Mails = manyVotes(count, 0, 1) }), told(count > 80, impl.ErrMany))
	}
	for _, count := range []int{399, 400, 401, 500} {
		mustCluster(t, clusterWith(newThree(), func(c *impl.Cluster) { c.Wins = manyWins(count) }), told(count > 400, impl.ErrMany))
	}
	for _, count := range []int{39, 40, 41, 80} {
		mustCluster(t, clusterWith(newThree(), func(c *impl.Cluster) { c.Seals = sealsOf(1, termsLog(evenTerms(count, 1)...)...) }), told(count > 40, impl.ErrMany))
	}
}

// nodeOff breaks a node of a cluster by its place.
func nodeOff(place int, do func(n *impl.Node)) func(c *impl.Cluster) {
	return func(c *impl.Cluster) { do(&c.Nodes[place]) }
}

// mailOff breaks a mail of a cluster by its place.
func mailOff(place int, do func(m *impl.Mail)) func(c *impl.Cluster) {
	return func(c *impl.Cluster) { do(&c.Mails[place]) }
}

func winOff(won impl.Won) func(c *impl.Cluster) {
	return func(c *impl.Cluster) { c.Wins = append([]impl.Won{won}, c.Wins...) }
}

func sealOff(sealed impl.Seal) func(c *impl.Cluster) {
	return func(c *impl.Cluster) { c.Seals = append([]impl.Seal{sealed}, c.Seals...) }
}

// steadyCluster are three nodes with mails, wins and seals, all of them right.
func steadyCluster() impl.Cluster {
	return clusterWith(ledThree(7, 1, 2, 2), func(c *impl.Cluster) {
		c.Mails = []impl.Mail{appendOf(0, 1, 7, 2, 2, 1, termsLog(3, 4)), appendOf(0, 2, 7, 0, 0, 0, nil), voteOf(1, 0, 6, 3, 2)}
		c.Seals = sealsOf(7, c.Nodes[0].Log[:2]...)
	})
}

// clusterFaults are the faults of the steady cluster, in the order of the chapter: one list for what is asked together.
func clusterFaults() [][]broken[impl.Cluster] {
	var nodes, mails, wins, seals []broken[impl.Cluster]
	for _, stage := range nodeFaults() {
		for _, one := range []broken[impl.Node]{stage[0], stage[len(stage)-1]} {
			nodes = append(nodes, breaks(one.code, nodeOff(0, one.do))...)
		}
	}
	for place := range 3 {
		nodes = append(nodes, breaks(impl.ErrForm, nodeOff(place, func(n *impl.Node) { n.Peers = 4 }), nodeOff(place, func(n *impl.Node) { n.Peers = 5 }))...)
	}
	nodes = append(nodes, breaks(impl.ErrForm,
		nodeOff(1, func(n *impl.Node) { n.Id = 2 }), nodeOff(2, func(n *impl.Node) { n.Id = 0 }), nodeOff(2, func(n *impl.Node) { n.Id = 1 }),
		func(c *impl.Cluster) { c.Nodes[1], c.Nodes[2] = c.Nodes[2], c.Nodes[1] },
		func(c *impl.Cluster) { c.Nodes = append(c.Nodes, impl.Node{Id: 3, Peers: 4, Voted: -1}) },
		func(c *impl.Cluster) { c.Nodes = c.Nodes[:2] })...)
	for _, stage := range mailFaults() {
		for _, one := range stage {
			m := impl.Mail{Kind: impl.MailVote, To: 1, Term: 7}
			one.do(&m)
			// To another node it may be right.
			if m.To == 1 {
				mails = append(mails, breaks(one.code, mailOff(0, func(to *impl.Mail) { *to = m }))...)
			}
		}
	}
	for _, far := range append([]int64{-1, 3, 4, 5}, farNumbers...) {
		// That there is no such node is asked ahead of what else is not right with the mail.
		mails = append(mails, breaks(impl.ErrRange, mailOff(0, func(m *impl.Mail) { m.To = far }), mailOff(0, func(m *impl.Mail) { *m = impl.Mail{To: far} }))...)
		wins = append(wins, breaks(impl.ErrRange, winOff(impl.Won{Term: 1, Node: far}))...)
	}
	for _, far := range append([]int64{-1, 0, 100001}, farNumbers...) {
		wins = append(wins, breaks(impl.ErrRange, winOff(impl.Won{Term: far, Node: 0}))...)
		seals = append(seals, breaks(impl.ErrRange, sealOff(impl.Seal{Term: far, Entry: impl.Entry{Term: 1}}), sealOff(impl.Seal{Term: far, Entry: impl.Entry{Term: 1, Client: 1}}))...)
		seals = append(seals, breaks(impl.ErrRange, sealOff(impl.Seal{Term: 1, Entry: impl.Entry{Term: far}}))...)
	}
	seals = append(seals, breaks(impl.ErrForm,
		sealOff(impl.Seal{Term: 1, Entry: impl.Entry{Term: 1, Client: 1}}), sealOff(impl.Seal{Term: 1, Entry: impl.Entry{Term: 1, Cmd: plainCmds()[0]}}),
		sealOff(impl.Seal{Term: 1, Entry: askedOf(1, 1, 1, impl.Cmd{})}))...)
	return [][]broken[impl.Cluster]{
		breaks(impl.ErrMany,
			func(c *impl.Cluster) { c.Mails = slices.Repeat(c.Mails, 27) },
			func(c *impl.Cluster) { c.Nodes = slices.Repeat(c.Nodes, 2) },
			func(c *impl.Cluster) { c.Nodes = nil }),
		nodes, mails,
		breaks(impl.ErrMany,
			func(c *impl.Cluster) { c.Wins = slices.Repeat(c.Wins, 401) },
			func(c *impl.Cluster) { c.Seals = slices.Repeat(c.Seals, 21) }),
		wins, seals,
	}
}

func TestClusterFaultIsTheFirstOne(t *testing.T) {
	mustCluster(t, steadyCluster(), impl.OK)
	stages := clusterFaults()
	for place, stage := range stages {
		for _, one := range stage {
			mustCluster(t, clusterWith(steadyCluster(), one.do), one.code)
			// Whatever else is broken that is asked behind it.
			for _, later := range stages[place+1:] {
				for _, other := range later {
					c := clusterWith(steadyCluster(), other.do)
					if len(c.Nodes) == 3 && len(c.Mails) == 3 {
						one.do(&c)
						mustCluster(t, c, one.code)
					}
				}
			}
		}
	}
}

func TestClusterFaultGoesElementByElement(t *testing.T) {
	both := func(one, other func(c *impl.Cluster), want int64) {
		t.Helper()
		c := clusterWith(steadyCluster(), one)
		other(&c)
		mustCluster(t, c, want)
	}
	strange, far := func(n *impl.Node) { n.Role = 9 }, func(n *impl.Node) { n.Peers = 5 }
	full := func(n *impl.Node) { n.Log = termsLog(evenTerms(41, 1)...) }
	// The place of the first node is asked ahead of the second one's own faults, and behind its own.
	both(nodeOff(1, far), nodeOff(2, strange), impl.ErrForm)
	both(nodeOff(1, far), nodeOff(2, full), impl.ErrForm)
	both(nodeOff(2, far), nodeOff(1, full), impl.ErrMany)
	both(nodeOff(2, far), nodeOff(2, full), impl.ErrMany)
	both(nodeOff(2, func(n *impl.Node) { n.Id = 1 }), nodeOff(2, full), impl.ErrMany)
	kindless, astray := func(m *impl.Mail) { m.Kind = 9 }, func(m *impl.Mail) { m.To = 3 }
	agreed := func(m *impl.Mail) { m.Ok = true }
	both(mailOff(0, kindless), mailOff(1, astray), impl.ErrText)
	both(mailOff(0, astray), mailOff(1, kindless), impl.ErrRange)
	both(mailOff(0, astray), mailOff(0, kindless), impl.ErrRange)
	both(mailOff(1, agreed), mailOff(2, kindless), impl.ErrForm)
	both(mailOff(1, agreed), mailOff(2, astray), impl.ErrForm)
	both(mailOff(2, agreed), mailOff(1, kindless), impl.ErrText)
	// How many wins and seals there are is asked together, ahead of each of them.
	both(func(c *impl.Cluster) { c.Seals = slices.Repeat(c.Seals, 21) }, winOff(impl.Won{}), impl.ErrMany)
	both(func(c *impl.Cluster) { c.Wins = slices.Repeat(c.Wins, 401) }, sealOff(impl.Seal{}), impl.ErrMany)
	both(sealOff(impl.Seal{Term: 0, Entry: impl.Entry{Term: 1}}), sealOff(impl.Seal{Term: 1, Entry: impl.Entry{Term: 1, Seq: 1}}), impl.ErrForm)
	both(sealOff(impl.Seal{Term: 1, Entry: impl.Entry{Term: 1, Seq: 1}}), sealOff(impl.Seal{Term: 0, Entry: impl.Entry{Term: 1}}), impl.ErrRange)
}

func TestClusterFaultLooksAtEachElement(t *testing.T) {
	great := greatCluster()
	mustCluster(t, great, impl.OK)
	spoiled := func(want int64, do func(c *impl.Cluster)) {
		t.Helper()
		c := impl.Cluster{Nodes: slices.Clone(great.Nodes), Mails: slices.Clone(great.Mails), Wins: slices.Clone(great.Wins), Seals: slices.Clone(great.Seals)}
		do(&c)
		mustCluster(t, c, want)
	}
	for place := range 5 {
		spoiled(impl.ErrForm, nodeOff(place, func(n *impl.Node) { n.Log = append(n.Log[:39:39], impl.Entry{Term: 100000, Seq: 1}) }))
		spoiled(impl.ErrForm, nodeOff(place, func(n *impl.Node) { n.Id = (n.Id + 1) % 5 }))
	}
	for place := range 80 {
		spoiled(impl.ErrRange, mailOff(place, func(m *impl.Mail) { m.To = 5 }))
		spoiled(impl.ErrText, mailOff(place, func(m *impl.Mail) { m.Kind = 0 }))
	}
	for place := range 400 {
		spoiled(impl.ErrRange, func(c *impl.Cluster) { c.Wins[place].Node = 5 })
		spoiled(impl.ErrRange, func(c *impl.Cluster) { c.Wins[place].Term = 100001 })
	}
	for place := range 40 {
		spoiled(impl.ErrRange, func(c *impl.Cluster) { c.Seals[place].Term = 0 })
		spoiled(impl.ErrRange, func(c *impl.Cluster) { c.Seals[place].Entry.Client = 1000 })
		spoiled(impl.ErrForm, func(c *impl.Cluster) { c.Seals[place].Entry = impl.Entry{Term: 1, Client: 1} })
	}
}

func TestClusterFaultOfManyClusters(t *testing.T) {
	codes := map[int64]int{}
	for _, c := range manyBadClusters(6000) {
		mustCluster(t, c, wantClusterFault(c))
		codes[wantClusterFault(c)]++
	}
	mustMeet(t, codes, 50, impl.OK, impl.ErrForm, impl.ErrMany, impl.ErrRange, impl.ErrText)
}
