package tests

import (
	"slices"
	"testing"

	"loop.example/g00222/impl"
)

// mustBeWon wants that no two nodes won one term, or that two did, in the order in which the wins are told and in the other one.
func mustBeWon(t *testing.T, want bool, wins ...impl.Won) {
	t.Helper()
	var wrong []string
	if !want {
		wrong = []string{"OneLeader"}
	}
	back := slices.Clone(wins)
	slices.Reverse(back)
	for _, list := range [][]impl.Won{wins, back} {
		mustLack(t, clusterWith(newThree(), func(c *impl.Cluster) { c.Wins = list }), wrong...)
	}
}

func TestWinsOfOneLeaderATerm(t *testing.T) {
	mustBeWon(t, true)
	mustBeWon(t, true, impl.Won{Term: 1, Node: 2})
	mustBeWon(t, true, impl.Won{Term: 1, Node: 0}, impl.Won{Term: 2, Node: 1}, impl.Won{Term: 3, Node: 2})
	mustBeWon(t, true, impl.Won{Term: 1, Node: 1}, impl.Won{Term: 2, Node: 1}, impl.Won{Term: 100000, Node: 1})
	// One term with two wins of one node, beside each other or not.
	mustBeWon(t, true, impl.Won{Term: 4, Node: 1}, impl.Won{Term: 4, Node: 1})
	mustBeWon(t, true, impl.Won{Term: 4, Node: 1}, impl.Won{Term: 5, Node: 0}, impl.Won{Term: 4, Node: 1}, impl.Won{Term: 5, Node: 0})
	mustBeWon(t, true, slices.Repeat([]impl.Won{{Term: 9, Node: 2}}, 400)...)
	mustBeWon(t, true, manyWins(400)...)
	// Terms that fall, and a term that is the number of another node.
	mustBeWon(t, true, impl.Won{Term: 2, Node: 1}, impl.Won{Term: 1, Node: 2})
}

func TestWinsOfTwoLeadersOfATerm(t *testing.T) {
	mustBeWon(t, false, impl.Won{Term: 4, Node: 1}, impl.Won{Term: 4, Node: 2})
	mustBeWon(t, false, impl.Won{Term: 4, Node: 0}, impl.Won{Term: 4, Node: 1})
	mustBeWon(t, false, impl.Won{Term: 4, Node: 0}, impl.Won{Term: 5, Node: 0}, impl.Won{Term: 4, Node: 1})
	mustBeWon(t, false, impl.Won{Term: 4, Node: 1}, impl.Won{Term: 4, Node: 1}, impl.Won{Term: 4, Node: 2})
	mustBeWon(t, false, impl.Won{Term: 4, Node: 1}, impl.Won{Term: 4, Node: 2}, impl.Won{Term: 4, Node: 1})
	mustBeWon(t, false, impl.Won{Term: 100000, Node: 2}, impl.Won{Term: 1, Node: 0}, impl.Won{Term: 100000, Node: 0})
}

func TestOneLeaderAsksForEachTwoWins(t *testing.T) {
	// Two of six, wherever they stand.
	for one := range 6 {
		for other := range one {
			wins := manyWins(6)
			wins[one] = impl.Won{Term: wins[other].Term, Node: 1}
			mustBeWon(t, false, wins...)
			wins[one].Node = 0
			mustBeWon(t, true, wins...)
		}
	}
	// And of as many as there may be.
	for _, places := range [][2]int{{0, 1}, {0, 399}, {1, 398}, {200, 201}, {398, 399}} {
		wins := manyWins(400)
		wins[places[1]] = impl.Won{Term: wins[places[0]].Term, Node: 2}
		mustBeWon(t, false, wins...)
	}
}

func TestOneLeaderAsksForWinsAlone(t *testing.T) {
	// Two lead in one term, but nothing is told of a win, or of one of them.
	two := clusterOf(leaderOf(0, 5, 1), leaderOf(1, 5, 1), followerOf(2, 5, 0, 1))
	mustLack(t, two)
	two.Wins = []impl.Won{{Term: 5, Node: 1}}
	mustLack(t, two)
	two.Wins = append(two.Wins, impl.Won{Term: 5, Node: 0})
	mustLack(t, two, "OneLeader")
	// Nobody leads any more.
	mustLack(t, clusterWith(newThree(), func(c *impl.Cluster) { c.Wins = []impl.Won{{Term: 5, Node: 1}, {Term: 5, Node: 2}} }), "OneLeader")
}

func TestWhoLeads(t *testing.T) {
	mustBeLed(t, newThree(), impl.ErrNone, 0)
	mustBeLed(t, newAlone(), impl.ErrNone, 0)
	// Who asks for votes does not lead, whatever the term is; nor does who won.
	asks := clusterOf(askerOf(0, 9), askerOf(1, 100000), followerOf(2, 100000, 1))
	asks.Wins = []impl.Won{{Term: 9, Node: 0}}
	mustBeLed(t, asks, impl.ErrNone, 0)
	for id := range int64(3) {
		c := asks
		c.Nodes = slices.Clone(asks.Nodes)
		c.Nodes[id] = leaderOf(id, 1)
		mustBeLed(t, c, impl.OK, id)
	}
	alone := stands(t, impl.TimeoutAt(newAlone(), 0))
	mustBeLed(t, alone, impl.OK, 0)
	mustBeLed(t, stands(t, impl.CrashAt(alone, 0)), impl.ErrNone, 0)
	mustBeLed(t, greatCluster(), impl.OK, 3)
}

func TestWhoLeadsInAnElderTermBesideWhoLeadsInALaterOne(t *testing.T) {
	led := func(terms ...int64) impl.Cluster {
		c := impl.NewCluster(int64(len(terms))).Cluster
		for id, term := range terms {
			if n := &c.Nodes[id]; term > 0 {
				n.Term, n.Voted, n.Role, n.Next, n.Match = term, n.Id, impl.RoleLead, evenTerms(len(terms), 1), evenTerms(len(terms), 0)
			}
		}
		return c
	}
	mustBeLed(t, led(4, 0, 5), impl.OK, 2)
	mustBeLed(t, led(5, 0, 4), impl.OK, 0)
	mustBeLed(t, led(0, 9, 100000), impl.OK, 2)
	mustBeLed(t, led(0, 100000, 99999), impl.OK, 1)
	mustBeLed(t, led(3, 1, 7, 2, 6), impl.OK, 2)
	mustBeLed(t, led(1, 2, 3, 4, 5), impl.OK, 4)
	mustBeLed(t, led(5, 4, 3, 2, 1), impl.OK, 0)
	// Of those of one term the first one.
	mustBeLed(t, led(0, 4, 4), impl.OK, 1)
	mustBeLed(t, led(2, 4, 3, 4, 4), impl.OK, 1)
	mustBeLed(t, led(1, 1, 1, 1, 1), impl.OK, 0)
	// How long their logs are, and what was won or sealed, is not asked.
	c := led(4, 5, 0)
	c.Nodes[0].Log, c.Nodes[0].Commit = markedLog(1, 1, 4), 2
	c.Wins, c.Seals = []impl.Won{{Term: 4, Node: 0}}, sealsOf(4, c.Nodes[0].Log...)
	mustBeLed(t, c, impl.OK, 1)
}
