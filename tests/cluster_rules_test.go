package tests

import (
	"math/rand"
	"reflect"
	"testing"

	"loop.example/g00222/impl"
)

// clusterAsked is what the functions of the layer are asked with.
type clusterAsked struct {
	c               impl.Cluster
	node, at, peers int64
	x               impl.Entry
}

// clusterQuestions pairs clusters with and without a fault, and places and entries that they have or wait for, or not.
func clusterQuestions() []clusterAsked {
	random := rand.New(rand.NewSource(95))
	all := []clusterAsked{{}, {c: impl.Cluster{Nodes: []impl.Node{}, Mails: []impl.Mail{}}}}
	for i, c := range append(manyClusters(400), manyBadClusters(100)...) {
		q := clusterAsked{c: c, peers: random.Int63n(8) - 1, x: someEntry(random, 1)}
		q.node, q.at = random.Int63n(int64(len(c.Nodes)+1)), random.Int63n(int64(len(c.Mails)+1))
		if i%10 == 0 {
			q.node, q.at = farNumbers[random.Intn(len(farNumbers))], farNumbers[random.Intn(len(farNumbers))]
		}
		all = append(all, q)
	}
	return all
}

// clustersOf calls the functions of the layer that answer with a cluster.
func clustersOf(q clusterAsked) []impl.ClusterResult {
	list := append(nodeOfCluster(q.c, q.node, q.x.Client, q.x.Seq, q.x.Cmd), mailOfCluster(q.c, q.at)...)
	return append(list, impl.NewCluster(q.peers))
}

// askClusters calls every function of the layer and gives all that they answer.
func askClusters(q clusterAsked) []any {
	list := []any{impl.ClusterFault(q.c)}
	for _, answer := range clustersOf(q) {
		list = append(list, answer)
	}
	return list
}

func TestClustersAnswerTheSameEachTime(t *testing.T) {
	mustAnswerTheSame(t, clusterQuestions(), askClusters)
}

func TestClustersStayAsTheyWere(t *testing.T) {
	for _, q := range clusterQuestions() {
		q.c = shaped(shape{room: 2}, q.c)
		whole := shaped(shape{whole: true}, q.c)
		askClusters(q)
		if !reflect.DeepEqual(shaped(shape{whole: true}, q.c), whole) {
			t.Fatalf("%s, or the room behind its lists, was changed", short(q))
		}
	}
}

func TestClustersAnswerTheSameHoweverTheirListsLie(t *testing.T) {
	for _, q := range clusterQuestions() {
		bare := q
		bare.c = shaped(shape{}, q.c)
		first := askClusters(bare)
		// With room behind them, and without elements but not nil.
		for _, s := range []shape{{room: 2}, {empty: true}} {
			other := q
			other.c = shaped(s, q.c)
			if second := askClusters(other); !reflect.DeepEqual(first, second) {
				t.Fatalf("%s is answered as %s and as %s", short(q), short(first), short(second))
			}
		}
	}
}

func TestClustersAnswerNewMemory(t *testing.T) {
	for _, q := range clusterQuestions() {
		q.c = shaped(shape{room: 2}, q.c)
		again := clustersOf(q)
		for i, answer := range clustersOf(q) {
			if !lieApart(answer, q.c, again[i]) {
				t.Fatalf("what %s gives shares memory with it, or with what it gives again, or within itself", short(q))
			}
		}
	}
}

func TestClustersWhoseListsAreOneGetTheirOwn(t *testing.T) {
	// Who hands in one list for all gets one for each.
	log := shaped(shape{room: 2}, markedLog(1, 1, 5, 5))
	marks := shaped(shape{room: 2}, []int64{3, 3, 3})
	lead := func(id int64) impl.Node {
		return impl.Node{Id: id, Peers: 3, Term: 5, Voted: id, Log: log, Role: impl.RoleLead, Next: marks, Match: marks}
	}
	m := appendOf(2, 1, 6, 1, 1, 0, log[1:])
	c := impl.Cluster{Nodes: []impl.Node{lead(0), lead(1), {Id: 2, Peers: 3, Term: 5, Voted: -1, Log: log[:2]}}, Mails: []impl.Mail{m, m, m}}
	whole := shaped(shape{whole: true}, c)
	for node := range int64(3) {
		q := clusterAsked{c: c, node: node, at: node, x: askedOf(1, 2, 3, plainCmds()[0])}
		for _, answer := range clustersOf(q) {
			if !lieApart(answer, c) {
				t.Fatalf("two lists of %s are one", short(answer))
			}
		}
		mustStand(t, impl.CopyMail(c, node), clusterWith(c, func(c *impl.Cluster) { c.Mails = append(c.Mails, m) }))
	}
	if !reflect.DeepEqual(shaped(shape{whole: true}, c), whole) {
		t.Error("what was handed in was changed")
	}
}
