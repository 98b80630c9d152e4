package tests

import (
	"math/rand"
	"slices"
	"testing"

	"loop.example/g00222/impl"
)

func mustVerdicts(t *testing.T, list []impl.Verdict, want int64) {
	t.Helper()
	if code := impl.VerdictsFault(list); code != want {
		t.Errorf("the fault of %s is %d, not %d", short(list), code, want)
	}
}

func mustSay(t *testing.T, list []impl.Verdict, name, probers, want int64) {
	t.Helper()
	if got := impl.VerdictFor(list, name, probers); got != (impl.IntResult{Value: want}) {
		t.Errorf("%d probers say %v of %d, not %d: %s", probers, got, name, want, short(list))
	}
}

func mustNotSay(t *testing.T, list []impl.Verdict, name, probers, code int64) {
	t.Helper()
	if got := impl.VerdictFor(list, name, probers); got != (impl.IntResult{Code: code}) {
		t.Errorf("%d probers say %v of %d, not the code %d: %s", probers, got, name, code, short(list))
	}
}

// saying gives a verdict of each of so many probers, the first ones up, the others not.
func saying(name int64, up, not int64, epoch int64) []impl.Verdict {
	var list []impl.Verdict
	for prober := range up + not {
		list = append(list, verdictOf(prober, name, prober < up, epoch))
	}
	return list
}

func TestVerdictsFaultOfWhatHasNone(t *testing.T) {
	random := rand.New(rand.NewSource(124))
	for _, list := range manyVerdicts(random, plainConfig(), 1000) {
		mustVerdicts(t, list, impl.OK)
	}
	for _, prober := range []int64{0, 1, 9} {
		for _, name := range []int64{1, 2, 999} {
			for _, epoch := range []int64{0, 1, 1000000} {
				mustVerdicts(t, []impl.Verdict{verdictOf(prober, name, true, epoch), verdictOf(prober, name, false, epoch)}, impl.OK)
			}
		}
	}
}

func TestVerdictsFaultOfHowManyThereAre(t *testing.T) {
	right := verdictOf(3, 3, true, 3)
	mustVerdicts(t, slices.Repeat([]impl.Verdict{right}, 59), impl.OK)
	mustVerdicts(t, slices.Repeat([]impl.Verdict{right}, 60), impl.OK)
	for _, count := range []int{61, 62, 120, 100000} {
		mustVerdicts(t, slices.Repeat([]impl.Verdict{right}, count), impl.ErrMany)
		// Ahead of whatever is not right with them.
		mustVerdicts(t, make([]impl.Verdict, count), impl.ErrMany)
	}
}

func TestVerdictsFaultLooksAtEachField(t *testing.T) {
	for _, count := range []int{1, 2, 60} {
		for place := range count {
			broken := func(do func(v *impl.Verdict)) {
				t.Helper()
				list := slices.Repeat([]impl.Verdict{verdictOf(3, 3, place%2 == 0, 3)}, count)
				do(&list[place])
				mustVerdicts(t, list, impl.ErrRange)
				mustNotSay(t, list, 3, 3, impl.ErrRange)
			}
			for _, far := range append([]int64{-1, 1000001}, farNumbers...) {
				broken(func(v *impl.Verdict) { v.Prober = far })
				broken(func(v *impl.Verdict) { v.Name = far })
				broken(func(v *impl.Verdict) { v.Epoch = far })
			}
			broken(func(v *impl.Verdict) { v.Prober = 10 })
			broken(func(v *impl.Verdict) { v.Name = 0 })
			broken(func(v *impl.Verdict) { v.Name = 1000 })
		}
	}
}

func TestVerdictsFaultOfManyLists(t *testing.T) {
	codes := map[int64]int{}
	for _, list := range manyBadVerdicts(8000) {
		want := wantVerdictsFault(list)
		mustVerdicts(t, list, want)
		codes[want]++
		if want != impl.OK {
			// Ahead of the name and of the probers.
			mustNotSay(t, list, 3, 3, want)
			mustNotSay(t, list, 0, 3, want)
			mustNotSay(t, list, 3, 11, want)
		}
	}
	mustMeet(t, codes, 200, impl.OK, impl.ErrMany, impl.ErrRange)
}

func TestVerdictForOfANameThatIsNoneAndOfHowManyProbe(t *testing.T) {
	for _, list := range [][]impl.Verdict{nil, saying(3, 3, 0, 1), slices.Repeat([]impl.Verdict{verdictOf(0, 3, true, 1)}, 60)} {
		for _, far := range append([]int64{0, 1000}, farNumbers...) {
			mustNotSay(t, list, far, 3, impl.ErrRange)
			mustNotSay(t, list, far, far, impl.ErrRange)
		}
		for _, far := range append([]int64{0, 11, 12}, farNumbers...) {
			mustNotSay(t, list, 3, far, impl.ErrRange)
		}
		for _, name := range []int64{1, 2, 998, 999} {
			for probers := int64(1); probers <= 10; probers++ {
				mustSay(t, list, name, probers, 0)
			}
		}
	}
	// How many there are is told ahead of the name.
	mustNotSay(t, slices.Repeat([]impl.Verdict{verdictOf(0, 3, true, 1)}, 61), 0, 0, impl.ErrMany)
}

func TestVerdictForByHand(t *testing.T) {
	// A prober for itself.
	mustSay(t, saying(3, 1, 0, 0), 3, 1, 1)
	mustSay(t, saying(3, 0, 1, 0), 3, 1, 2)
	mustSay(t, saying(3, 1, 0, 0), 3, 2, 0)
	mustSay(t, saying(3, 0, 1, 0), 3, 2, 0)
	// Half of those who probe is not enough, and one more is.
	mustSay(t, saying(3, 1, 1, 0), 3, 2, 0)
	mustSay(t, saying(3, 2, 0, 0), 3, 2, 1)
	mustSay(t, saying(3, 2, 2, 0), 3, 4, 0)
	mustSay(t, saying(3, 3, 1, 0), 3, 4, 1)
	mustSay(t, saying(3, 1, 3, 0), 3, 4, 2)
	mustSay(t, saying(3, 5, 5, 0), 3, 10, 0)
	mustSay(t, saying(3, 6, 4, 0), 3, 10, 1)
	mustSay(t, saying(3, 4, 6, 0), 3, 10, 2)
	// Who says nothing is one of those who probe.
	mustSay(t, saying(3, 5, 0, 0), 3, 10, 0)
	mustSay(t, saying(3, 0, 5, 0), 3, 10, 0)
	mustSay(t, saying(3, 5, 0, 0), 3, 9, 1)
	mustSay(t, saying(3, 0, 5, 0), 3, 9, 2)
	// What is said of another name is not said of this one.
	mustSay(t, slices.Concat(saying(3, 2, 0, 0), saying(4, 0, 3, 9)), 3, 3, 1)
	mustSay(t, slices.Concat(saying(3, 2, 0, 0), saying(4, 0, 3, 9)), 4, 3, 2)
	mustSay(t, slices.Concat(saying(3, 2, 0, 0), saying(4, 0, 3, 9)), 5, 3, 0)
	mustSay(t, append(saying(3, 1, 0, 0), verdictOf(1, 4, true, 0), verdictOf(2, 4, true, 0)), 3, 3, 0)
}

func TestVerdictForNeedsMoreThanHalfOfThoseWhoProbe(t *testing.T) {
	random := rand.New(rand.NewSource(125))
	for probers := int64(1); probers <= 10; probers++ {
		for up := range probers + 1 {
			for not := range probers - up + 1 {
				list := saying(500, up, not, 7)
				random.Shuffle(len(list), func(i, k int) { list[i], list[k] = list[k], list[i] })
				want := int64(0)
				if up+up > probers {
					want = 1
				}
				if not+not > probers {
					want = 2
				}
				mustSay(t, list, 500, probers, want)
			}
		}
	}
}

func TestVerdictForOfOneProberAlone(t *testing.T) {
	// However often one says it, and in however many epochs, it is one.
	for prober := range int64(10) {
		for _, up := range []bool{true, false} {
			var same, later []impl.Verdict
			for epoch := range int64(60) {
				same, later = append(same, verdictOf(prober, 3, up, 5)), append(later, verdictOf(prober, 3, up, epoch))
			}
			for probers := int64(2); probers <= 10; probers++ {
				mustSay(t, same, 3, probers, 0)
				mustSay(t, later, 3, probers, 0)
			}
		}
	}
}

func TestVerdictForOfSeveralOfOneProber(t *testing.T) {
	up, not := func(epoch int64) impl.Verdict { return verdictOf(0, 3, true, epoch) }, func(epoch int64) impl.Verdict { return verdictOf(0, 3, false, epoch) }
	of := func(list ...impl.Verdict) []impl.Verdict { return list }
	// The greatest epoch counts, wherever it stands.
	mustSay(t, of(not(0), up(1)), 3, 1, 1)
	mustSay(t, of(up(1), not(0)), 3, 1, 1)
	mustSay(t, of(up(0), not(1)), 3, 1, 2)
	mustSay(t, of(not(1), up(0)), 3, 1, 2)
	mustSay(t, of(up(999999), not(1000000)), 3, 1, 2)
	mustSay(t, of(up(9), not(8), not(7), not(10), up(3)), 3, 1, 2)
	mustSay(t, of(up(1), not(3), up(2)), 3, 1, 2)
	mustSay(t, of(up(2), not(1), up(3), not(2)), 3, 1, 1)
	// Of one epoch the first one, whatever stands ahead of them, between them or behind.
	mustSay(t, of(up(4), not(4)), 3, 1, 1)
	mustSay(t, of(not(4), up(4)), 3, 1, 2)
	mustSay(t, of(not(4), up(4), up(4), up(4)), 3, 1, 2)
	mustSay(t, of(not(3), up(4), not(4)), 3, 1, 1)
	mustSay(t, of(up(3), not(4), up(3), up(4)), 3, 1, 2)
	mustSay(t, of(up(4), not(3), not(4)), 3, 1, 1)
	mustSay(t, of(not(4), up(4), not(3)), 3, 1, 2)
	mustSay(t, of(up(4), not(4), not(5), up(5)), 3, 1, 2)
	mustSay(t, of(up(4), not(4), up(4)), 3, 1, 1)
	mustSay(t, of(not(0), up(0), not(0)), 3, 1, 2)
	// An epoch of another prober, or on another name, is none of this one's.
	others := of(verdictOf(1, 3, false, 9), verdictOf(0, 4, false, 9), up(1), verdictOf(0, 4, false, 2), verdictOf(2, 3, true, 0))
	mustSay(t, others, 3, 1, 1)
	mustSay(t, others, 3, 3, 1)
	mustSay(t, others, 4, 1, 2)
	mustSay(t, others, 3, 2, 0)
	// Who said otherwise in the past says it no more: three said up once, and two of them do not now.
	past := append(saying(3, 3, 0, 1), verdictOf(0, 3, false, 2), verdictOf(2, 3, false, 2))
	mustSay(t, past, 3, 3, 2)
	mustSay(t, past[:4], 3, 3, 1)
	mustSay(t, append(past, verdictOf(1, 3, false, 0)), 3, 3, 2)
	mustSay(t, append(past, verdictOf(2, 3, true, 2)), 3, 3, 2)
	mustSay(t, append(past, verdictOf(2, 3, true, 3)), 3, 3, 1)
}

func TestVerdictForOfProbersThatAreNotBelowProbers(t *testing.T) {
	for probers := int64(1); probers <= 10; probers++ {
		var beyond []impl.Verdict
		for prober := probers; prober < 10; prober++ {
			beyond = append(beyond, verdictOf(prober, 3, true, 1000000))
		}
		mustSay(t, beyond, 3, probers, 0)
		// They turn nothing of what is said by those who are.
		mustSay(t, append(saying(3, 0, probers, 0), beyond...), 3, probers, 2)
		mustSay(t, slices.Concat(beyond, saying(3, 0, probers/2, 0)), 3, probers, 0)
		mustSay(t, slices.Concat(beyond, saying(3, probers/2, 0, 0)), 3, probers, 0)
	}
	// The one whose number is how many probe is the first one that is not.
	mustSay(t, []impl.Verdict{verdictOf(1, 3, true, 0), verdictOf(2, 3, true, 0)}, 3, 2, 0)
	mustSay(t, []impl.Verdict{verdictOf(1, 3, true, 0), verdictOf(2, 3, true, 0)}, 3, 3, 1)
	mustSay(t, []impl.Verdict{verdictOf(0, 3, true, 0), verdictOf(1, 3, true, 0)}, 3, 2, 1)
}

func TestVerdictForOfAsManyVerdictsAsThereMayBe(t *testing.T) {
	// Six of each prober, of which the last ones tell it.
	var list []impl.Verdict
	for epoch := range int64(6) {
		for prober := range int64(10) {
			list = append(list, verdictOf(prober, 3, epoch == 5 && prober < 6, epoch))
		}
	}
	mustSay(t, list, 3, 10, 1)
	mustSay(t, list[:59], 3, 10, 1)
	mustSay(t, list[:55], 3, 10, 0)
	mustSay(t, list[:54], 3, 10, 2)
	mustNotSay(t, append(list, verdictOf(0, 3, true, 9)), 3, 10, impl.ErrMany)
	slices.Reverse(list)
	mustSay(t, list, 3, 10, 1)
}

func TestVerdictForOfManyLists(t *testing.T) {
	random := rand.New(rand.NewSource(126))
	values := map[int64]int{}
	for _, c := range healthConfigs(200) {
		for _, list := range manyVerdicts(random, c, 30) {
			for range 4 {
				name, probers := someName(random, c), someProbers(random, list)
				if len(list) > 0 && random.Intn(3) > 0 {
					name = list[random.Intn(len(list))].Name
				}
				want := wantVerdict(list, name, probers)
				mustSay(t, list, name, probers, want.Value)
				values[want.Value]++
			}
		}
	}
	mustMeet(t, values, 1000, 0, 1, 2)
}

func TestVerdictForOfAllShortListsOfTwoProbers(t *testing.T) {
	// Each of four verdicts is one of two probers, up or not, and of one of two epochs.
	for bits := range 1 << 12 {
		var list []impl.Verdict
		for i := range 4 {
			one := bits >> (3 * i)
			list = append(list, verdictOf(int64(one&1), 3, one&2 > 0, int64(one>>2&1)))
		}
		for probers := int64(1); probers <= 3; probers++ {
			for count := range 5 {
				mustSay(t, list[:count], 3, probers, wantVerdict(list[:count], 3, probers).Value)
			}
		}
	}
}

func TestVerdictForIsTheSameWhereWhatIsPastIsLeftOut(t *testing.T) {
	random := rand.New(rand.NewSource(127))
	for _, list := range manyVerdicts(random, plainConfig(), 1000) {
		var counts []impl.Verdict
		for place, v := range list {
			past := func(other impl.Verdict) bool {
				return other.Prober == v.Prober && other.Name == v.Name && other.Epoch >= v.Epoch
			}
			later := func(other impl.Verdict) bool { return past(other) && other.Epoch > v.Epoch }
			if !slices.ContainsFunc(list[:place], past) && !slices.ContainsFunc(list[place:], later) {
				counts = append(counts, v)
			}
		}
		for _, backend := range plainConfig().Backends {
			for _, probers := range []int64{1, 2, 3, 5, 10} {
				got, want := impl.VerdictFor(list, backend.Name, probers), impl.VerdictFor(counts, backend.Name, probers)
				if got != want {
					t.Fatalf("%s say %v, and %s %v", short(list), got, short(counts), want)
				}
			}
		}
	}
}
