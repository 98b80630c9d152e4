package tests

import (
	"cmp"
	"fmt"
	"math/rand"
	"reflect"
	"slices"
	"testing"

	"loop.example/g00222/impl"
)

func clusterOf(nodes ...impl.Node) impl.Cluster {
	return impl.Cluster{Nodes: nodes}
}

// newThree are three nodes that know of nothing.
func newThree() impl.Cluster {
	return clusterOf(followerOf(0, 0, -1), followerOf(1, 0, -1), followerOf(2, 0, -1))
}

// ledThree are three nodes with the same log, of which the first one leads in a term and knows of nothing else.
func ledThree(term int64, terms ...int64) impl.Cluster {
	c := clusterOf(leaderOf(0, term, terms...), followerOf(1, term, 0, terms...), followerOf(2, term, 0, terms...))
	c.Wins = []impl.Won{{Term: term, Node: 0}}
	return c
}

// clusterWith gives a copy of a cluster to which something was done.
func clusterWith(c impl.Cluster, do func(c *impl.Cluster)) impl.Cluster {
	c = shaped(shape{}, c)
	do(&c)
	return c
}

// sealsOf gives seals of entries that became known in one term.
func sealsOf(term int64, entries ...impl.Entry) []impl.Seal {
	var seals []impl.Seal
	for _, x := range entries {
		seals = append(seals, impl.Seal{Term: term, Entry: x})
	}
	return seals
}

// manyVotes are so many mails from one node to another.
func manyVotes(count int, from, to int64) []impl.Mail {
	var mails []impl.Mail
	for i := range count {
		mails = append(mails, voteOf(from, to, 1+int64(i), 0, 0))
	}
	return mails
}

func manyWins(count int) []impl.Won {
	var wins []impl.Won
	for i := range count {
		wins = append(wins, impl.Won{Term: 1 + int64(i), Node: 0})
	}
	return wins
}

// short tells what is too long to be read by how it begins.
func short(what any) string {
	text := fmt.Sprintf("%+v", what)
	return text[:min(len(text), 3000)]
}

// mustStand wants a cluster as the answer, and that there is no fault in it.
func mustStand(t *testing.T, got impl.ClusterResult, want impl.Cluster) {
	t.Helper()
	if !reflect.DeepEqual(shaped(shape{}, got), shaped(shape{}, impl.ClusterResult{Cluster: want})) {
		t.Errorf("got\n%s, not\n%s", short(got), short(want))
	}
	mustCluster(t, got.Cluster, impl.OK)
}

func mustNotStand(t *testing.T, got impl.ClusterResult, code int64) {
	t.Helper()
	if !reflect.DeepEqual(shaped(shape{}, got), impl.ClusterResult{Code: code}) {
		t.Errorf("got %s, not the code %d alone", short(got), code)
	}
}

// plainClusters are clusters without a fault: new ones, those of nodes that are plain ones, and the greatest one.
func plainClusters() []impl.Cluster {
	led := clusterWith(ledThree(5, 1, 3, 5), func(c *impl.Cluster) {
		c.Nodes[0].Commit, c.Nodes[0].Match = 2, []int64{3, 2, 0}
		c.Mails = []impl.Mail{appendOf(0, 1, 5, 2, 3, 2, c.Nodes[0].Log[2:]), voteOf(2, 0, 6, 3, 5), takenOf(1, 0, 5, true, 3), grantOf(1, 0, 4, true)}
		c.Seals = sealsOf(4, c.Nodes[0].Log[:2]...)
	})
	alone := clusterWith(clusterOf(plainNodes()[3]), func(c *impl.Cluster) { c.Seals = sealsOf(2, c.Nodes[0].Log[0]) })
	return []impl.Cluster{clusterOf(impl.Node{Peers: 1, Voted: -1}), newThree(), led, alone, greatCluster()}
}

// greatCluster has as many of all as there may be.
func greatCluster() impl.Cluster {
	c := impl.Cluster{Wins: slices.Repeat([]impl.Won{{Term: 1, Node: 0}, {Term: 100000, Node: 4}}, 200), Seals: sealsOf(100000, fullLog()...)}
	for id := range int64(5) {
		n := impl.Node{Id: id, Peers: 5, Term: 100000, Voted: id, Log: fullLog(), Commit: 40}
		if id == 3 {
			n.Role, n.Next, n.Match = impl.RoleLead, []int64{41, 1, 1, 41, 41}, []int64{40, 0, 0, 40, 40}
		}
		c.Nodes = append(c.Nodes, n)
	}
	for i := range int64(80) {
		c.Mails = append(c.Mails, appendOf(i%5, (i+1)%5, 100000, 0, 0, 40, fullLog()))
	}
	return c
}

// someCluster gives a cluster without a fault. Its nodes begin with the same entries, but agree on nothing else.
func someCluster(random *rand.Rand) impl.Cluster {
	var c impl.Cluster
	one := func(list ...int) int { return list[random.Intn(len(list))] }
	peers := 1 + random.Int63n(5)
	base := someLog(random, one(3, 8, 36))
	for id := range peers {
		log := slices.Clone(base[:random.Intn(len(base)+1)])
		last := max(1, wantLast(log)) + random.Int63n(3)
		for range random.Intn(4) {
			log = append(log, someEntry(random, last))
		}
		c.Nodes = append(c.Nodes, someNodeOf(random, id, peers, log))
	}
	for range one(0, 1, 5, 5, 9, 77+random.Intn(4)) {
		if peers > 1 {
			c.Mails = append(c.Mails, someMail(random, c.Nodes[random.Int63n(peers)]))
		}
	}
	for range one(0, 1, 4, 399, 400, 400) {
		c.Wins = append(c.Wins, impl.Won{Term: 1 + random.Int63n(100000), Node: random.Int63n(peers)})
	}
	// Nobody says that what is sealed is what the nodes have.
	for range one(0, 0, 1, 4, random.Intn(41), 40) {
		c.Seals = append(c.Seals, impl.Seal{Term: 1 + random.Int63n(100000), Entry: someEntry(random, 1+random.Int63n(9))})
	}
	return c
}

func manyClusters(count int) []impl.Cluster {
	random := rand.New(rand.NewSource(9))
	clusters := plainClusters()
	for range count {
		clusters = append(clusters, someCluster(random))
	}
	return clusters
}

// spoilCluster breaks one thing of a cluster, or hits none.
func spoilCluster(random *rand.Rand, c *impl.Cluster) {
	wrong := func(list ...int64) int64 { return append(list, farNumbers...)[random.Intn(len(list)*3)] }
	switch n := &c.Nodes[random.Intn(len(c.Nodes))]; random.Intn(14) {
	case 0, 1:
		spoilNode(random, n)
	case 2:
		n.Id = wrong(-1, 0, 1, 2)
	case 3:
		n.Peers = wrong(0, 1, 2, 3, 4, 5, 6)
	case 4:
		c.Nodes = append(c.Nodes, cloneNode(*n))
	case 5:
		c.Nodes = c.Nodes[:max(1, len(c.Nodes)-1)]
	case 6, 7, 12, 13:
		if len(c.Mails) > 0 {
			spoilMail(random, &c.Mails[random.Intn(len(c.Mails))])
		}
	case 8:
		c.Wins = append(c.Wins, impl.Won{Term: wrong(0, 1, 100000, 100001), Node: wrong(-1, 0, n.Peers-1, n.Peers)})
	case 9:
		c.Seals = append(c.Seals, impl.Seal{Term: wrong(0, 1, 100000, 100001), Entry: someEntry(random, 1)})
	case 10:
		if len(c.Seals) > 0 {
			spoilEntry(random, &c.Seals[random.Intn(len(c.Seals))].Entry)
		}
	case 11:
		if len(c.Mails) > 0 {
			c.Mails = append(c.Mails, shaped(shape{}, c.Mails)...)
		}
	}
}

// manyBadClusters gives clusters of which nearly all have one fault or several.
func manyBadClusters(count int) []impl.Cluster {
	random := rand.New(rand.NewSource(99))
	clusters := manyClusters(count)[:count]
	for i := range clusters {
		clusters[i] = shaped(shape{}, clusters[i])
		for range 1 + i%4 {
			spoilCluster(random, &clusters[i])
		}
		if i%100 == 0 {
			clusters[i].Nodes = nil
		}
	}
	return clusters
}

// wantClusterFault gathers what is asked, in the order of the chapter, and takes the first code.
func wantClusterFault(c impl.Cluster) int64 {
	count := int64(len(c.Nodes))
	codes := []int64{told(count == 0 || count > 5 || len(c.Mails) > 80, impl.ErrMany)}
	for place, n := range c.Nodes {
		codes = append(codes, wantNodeFault(n), told(n.Id != int64(place) || n.Peers != count, impl.ErrForm))
	}
	for _, m := range c.Mails {
		codes = append(codes, told(outside(m.To, 0, count-1), impl.ErrRange))
		if cmp.Or(codes...) == impl.OK {
			codes = append(codes, wantMailFault(c.Nodes[m.To], m))
		}
	}
	codes = append(codes, told(len(c.Wins) > 400 || len(c.Seals) > 40, impl.ErrMany))
	for _, won := range c.Wins {
		codes = append(codes, told(outside(won.Term, 1, 100000) || outside(won.Node, 0, count-1), impl.ErrRange))
	}
	for _, sealed := range c.Seals {
		codes = append(codes, told(outside(sealed.Term, 1, 100000), impl.ErrRange), wantEntryFault(sealed.Entry))
	}
	return cmp.Or(codes...)
}

func TestClusterHelpersAgreeWithEachOther(t *testing.T) {
	for _, c := range manyClusters(1000) {
		if wantClusterFault(c) != impl.OK {
			t.Fatalf("%s is not without a fault", short(c))
		}
	}
	codes := map[int64]int{}
	for _, c := range manyBadClusters(2000) {
		codes[wantClusterFault(c)]++
	}
	mustMeet(t, codes, 10, impl.OK, impl.ErrForm, impl.ErrMany, impl.ErrRange, impl.ErrText)
}
