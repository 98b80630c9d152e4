package tests

import (
	"math/rand"
	"slices"
	"testing"

	"loop.example/g00222/impl"
)

// allCome lets all mails come, with the answers to them, in some order.
func allCome(t *testing.T, random *rand.Rand, c impl.Cluster) impl.Cluster {
	t.Helper()
	for len(c.Mails) > 0 {
		c = safely(t, impl.DeliverMail(c, random.Int63n(int64(len(c.Mails)))))
	}
	return c
}

// crowded lets many mails be sent of which few come.
func crowded(t *testing.T, random *rand.Rand, c impl.Cluster) impl.Cluster {
	t.Helper()
	for range random.Intn(60) {
		id, at := random.Int63n(int64(len(c.Nodes))), random.Int63n(int64(len(c.Mails))+1)
		x := someEntry(random, 1)
		steps := []impl.ClusterResult{
			impl.SpreadAt(c, id), impl.SpreadAt(c, id), impl.AskAt(c, id, x.Client, x.Seq, x.Cmd), impl.CopyMail(c, at), impl.DeliverMail(c, at),
		}
		if random.Intn(8) == 0 {
			steps = []impl.ClusterResult{impl.TimeoutAt(c, id)}
		}
		if got := steps[random.Intn(len(steps))]; got.Code == impl.OK {
			c = safely(t, got)
		}
	}
	return c
}

// crashAsAWhole lets all nodes start again, and then all mails come that are on their way.
func crashAsAWhole(t *testing.T, random *rand.Rand, c impl.Cluster) impl.Cluster {
	t.Helper()
	for id := range c.Nodes {
		c = safely(t, impl.CrashAt(c, int64(id)))
	}
	c = allCome(t, random, c)
	// Nobody leads because of what comes late.
	mustBeLed(t, c, impl.ErrNone, 0)
	return c
}

// votesInTurns lets one node after the other ask for votes, and all mails come each time, until one leads.
func votesInTurns(t *testing.T, random *rand.Rand, c impl.Cluster, first int64) (impl.Cluster, int64) {
	t.Helper()
	peers := int64(len(c.Nodes))
	// Behind the first round all are in one term, so that in the second one nobody but who lacks something is refused.
	for turn := range 2 * peers {
		c = allCome(t, random, safely(t, impl.TimeoutAt(c, (first+turn)%peers)))
		if leads := impl.LeaderOf(c); leads.Code == impl.OK {
			return c, leads.Value
		}
	}
	t.Fatalf("nobody comes to lead %s", short(c))
	return c, 0
}

// mustAgreeOnMore wants what a leader is asked to be agreed, behind all that was.
func mustAgreeOnMore(t *testing.T, random *rand.Rand, c impl.Cluster, leader, seq int64) impl.Cluster {
	t.Helper()
	before := impl.AgreedOf(c).Entries
	c, x := asksAs(t, c, leader, seq)
	for range 90 {
		c = allCome(t, random, safely(t, impl.SpreadAt(c, leader)))
	}
	after := impl.AgreedOf(c).Entries
	if !begins(after, before) || len(after) == len(before) || after[len(after)-1] != x {
		t.Fatalf("%v was agreed, and is %v when %v was asked", before, after, x)
	}
	for _, n := range c.Nodes {
		if n.Commit != int64(len(after)) || !slices.Equal(n.Log, after) {
			t.Fatalf("%s has not %v", short(n), after)
		}
	}
	return c
}

func TestClustersThatCrashedAsAWhole(t *testing.T) {
	sealed, mails, full := 0, 0, 0
	for seed := range int64(250) {
		random := rand.New(rand.NewSource(seed))
		c := crowded(t, random, grownCluster(seed))
		agreed := impl.AgreedOf(c).Entries
		sealed, mails = sealed+len(agreed), mails+len(c.Mails)
		c = crashAsAWhole(t, random, c)
		c, leader := votesInTurns(t, random, c, random.Int63n(int64(len(c.Nodes))))
		// Who leads has all that was agreed ahead of this.
		if !begins(c.Nodes[leader].Log, agreed) {
			t.Fatalf("%s has not %v", short(c.Nodes[leader]), agreed)
		}
		if len(c.Nodes[leader].Log) == 40 {
			full++
			mustNotStand(t, impl.AskAt(c, leader, 8, 1, plainCmds()[1]), impl.ErrMany)
			continue
		}
		c = mustAgreeOnMore(t, random, c, leader, 1)
		// And so it goes on as long as there is room, though all crash again.
		if seed%5 > 0 {
			continue
		}
		for seq := int64(2); len(c.Nodes[leader].Log) < 40; seq++ {
			if seq%8 == 0 {
				c, leader = votesInTurns(t, random, crashAsAWhole(t, random, c), seq)
			}
			c = mustAgreeOnMore(t, random, c, leader, seq)
		}
		mustNotStand(t, impl.AskAt(c, leader, 8, 99, plainCmds()[1]), impl.ErrMany)
	}
	if sealed < 1500 || mails < 2500 || full == 0 || full > 100 {
		t.Errorf("there were %d seals and %d mails, and %d logs without room", sealed, mails, full)
	}
}

func TestACrashOfAllWhileMailsAreOnTheirWay(t *testing.T) {
	random := rand.New(rand.NewSource(5))
	// The node that has all that was agreed is the last one whose turn it is, and the others are in later terms.
	c := spreadAmong(t, votesAmong(t, newThree(), 2, 1, 0, 1), 2, 0, 1)
	var agreed []impl.Entry
	for seq := range int64(6) {
		var x impl.Entry
		c, x = asksAs(t, c, 2, seq+1)
		c = spreadAmong(t, c, 2, 1)
		agreed = append(agreed, x)
	}
	mustAgree(t, c, impl.OK, agreed...)
	c = safely(t, impl.CrashAt(c, 1))
	c = votesAmong(t, c, 0, 30)
	if c.Nodes[0].Term != 30 || len(c.Nodes[0].Log) != 0 {
		t.Fatalf("node 0 is %s", short(c.Nodes[0]))
	}
	// Mails of each kind are on their way, some of them twice.
	c = safely(t, impl.SpreadAt(c, 2))
	c = safely(t, impl.TimeoutAt(c, 0))
	c = safely(t, impl.DeliverMail(c, 1))
	for at := range int64(len(c.Mails)) {
		c = safely(t, impl.CopyMail(c, at))
	}
	for first := range int64(3) {
		again := crashAsAWhole(t, random, c)
		mustAgree(t, again, impl.OK, agreed...)
		again, leader := votesInTurns(t, random, again, first)
		if leader == 0 || !begins(again.Nodes[leader].Log, agreed) {
			t.Fatalf("node %d leads %s", leader, short(again))
		}
		mustAgreeOnMore(t, random, again, leader, 7)
	}
}

func TestACrashOfAllWithAsManyMailsAsThereMayBe(t *testing.T) {
	random := rand.New(rand.NewSource(6))
	for peers := int64(2); peers <= 5; peers++ {
		c := stands(t, impl.NewCluster(peers))
		c, leader := votesInTurns(t, random, c, 0)
		c = mustAgreeOnMore(t, random, c, leader, 1)
		c, _ = asksAs(t, c, leader, 2)
		c = safely(t, impl.SpreadAt(c, leader))
		for len(c.Mails) < 80 {
			c = safely(t, impl.CopyMail(c, random.Int63n(int64(len(c.Mails)))))
		}
		for id := range peers {
			mustNotStand(t, impl.CopyMail(c, id%int64(len(c.Mails))), impl.ErrMany)
		}
		c, leader = votesInTurns(t, random, crashAsAWhole(t, random, c), 1)
		mustAgreeOnMore(t, random, c, leader, 3)
	}
}
