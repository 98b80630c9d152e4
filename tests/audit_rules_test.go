package tests

import (
	"reflect"
	"testing"

	"loop.example/g00222/impl"
)

// auditQuestions are clusters that came of new ones, those of which something was turned, and any others, with and without a fault.
func auditQuestions() []impl.Cluster {
	all := []impl.Cluster{{}, {Nodes: []impl.Node{}, Mails: []impl.Mail{}, Wins: []impl.Won{}, Seals: []impl.Seal{}}}
	all = append(all, manyTurned(40)...)
	return append(append(all, manyClusters(200)...), manyBadClusters(100)...)
}

// askAudits calls every function of the layer and gives all that they answer.
func askAudits(c impl.Cluster) []any {
	return []any{impl.OneLeader(c), impl.LogsMatch(c), impl.SealsKept(c), impl.LeadersHave(c), impl.SafeCluster(c), impl.AgreedOf(c), impl.LeaderOf(c)}
}

func TestAuditsAnswerTheSameEachTime(t *testing.T) {
	mustAnswerTheSame(t, auditQuestions(), askAudits)
}

func TestAuditsLeaveClustersAsTheyWere(t *testing.T) {
	for _, c := range auditQuestions() {
		c = shaped(shape{room: 2}, c)
		whole := shaped(shape{whole: true}, c)
		askAudits(c)
		if !reflect.DeepEqual(shaped(shape{whole: true}, c), whole) {
			t.Fatalf("%s, or the room behind its lists, was changed", short(c))
		}
	}
}

func TestAuditsAnswerTheSameHoweverListsLie(t *testing.T) {
	for _, c := range auditQuestions() {
		first := askAudits(shaped(shape{}, c))
		for _, s := range []shape{{room: 2}, {empty: true}} {
			if second := askAudits(shaped(s, c)); !reflect.DeepEqual(first, second) {
				t.Fatalf("%s is told to be %s and %s", short(c), short(first), short(second))
			}
		}
	}
}

func TestWhatIsAgreedIsNewMemory(t *testing.T) {
	for _, c := range auditQuestions() {
		c = shaped(shape{room: 2}, c)
		first, second := impl.AgreedOf(c), impl.AgreedOf(c)
		if !lieApart(first, c, second) {
			t.Fatalf("what is agreed in %s shares memory with it, or with what is told again", short(c))
		}
		// Nor does what becomes of the cluster turn what was told.
		for place := range c.Seals {
			c.Seals[place].Entry.Term = 77
		}
		if !reflect.DeepEqual(first, second) {
			t.Fatalf("what is agreed turned with %s", short(c))
		}
	}
}

func TestAuditsOfNodesWhoseListsAreOne(t *testing.T) {
	log, marks := markedLog(1, 1, 5, 5), []int64{3, 3, 3}
	c := newThree()
	for id := range c.Nodes {
		c.Nodes[id] = impl.Node{Id: int64(id), Peers: 3, Term: 5, Voted: int64(id), Log: log, Commit: 3, Role: impl.RoleLead, Next: marks, Match: marks}
	}
	c.Seals = sealsOf(5, log...)
	mustLack(t, c)
	mustBeLed(t, c, impl.OK, 0)
	mustAgree(t, c, impl.OK, log...)
}
