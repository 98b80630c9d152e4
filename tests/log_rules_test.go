package tests

import (
	"math/rand"
	"reflect"
	"slices"
	"testing"

	"loop.example/g00222/impl"
)

// logAsked is what the functions of the layer are asked with.
type logAsked struct {
	log, more   []impl.Entry
	index, term int64
}

// logQuestions pairs logs with and without a fault, and indexes and terms in and about them.
func logQuestions() []logAsked {
	random := rand.New(rand.NewSource(79))
	logs := append(manyLogs(300), manyBadLogs(60)...)
	all := []logAsked{{}, {log: []impl.Entry{}, more: []impl.Entry{}}}
	for i := range 1500 {
		var q logAsked
		q.log, q.index, q.term, q.more = someTake(random, logs)
		if i%10 == 0 {
			numbers := nearNumbers(q.log)
			q.index, q.term = numbers[random.Intn(len(numbers))], numbers[random.Intn(len(numbers))]
		}
		all = append(all, q)
	}
	return all
}

// askLogs calls every function of the layer and gives all that they answer.
func askLogs(q logAsked) []any {
	return []any{
		impl.EntryFault(impl.LastOf(q.log)), impl.LogFault(q.log), impl.LogFault(q.more), impl.LastOf(q.log), impl.FitsAt(q.log, q.index, q.term),
		impl.TakeEntries(q.log, q.index, q.term, q.more), impl.TakeEntries(q.log, q.index, q.term, q.log), impl.UpToDate(q.log, q.index, q.term),
		impl.CommonOf(q.log, q.more), impl.CommonOf(q.log, q.log), impl.SameEntries(q.log, q.more), impl.SameEntries(q.more, q.more),
	}
}

// roomyLog copies a log into memory with more room behind it, in which entries stand.
func roomyLog(log []impl.Entry) []impl.Entry {
	return roomy(log, askedOf(100000, 444, 4, plainCmds()[4]))
}

// spoilLog overwrites all that can be reached by a log.
func spoilLog(log []impl.Entry) {
	for i := range log[:cap(log)] {
		log[:cap(log)][i] = impl.Entry{Term: -9, Client: -9, Seq: -9}
	}
}

func TestLogsAnswerTheSameEachTime(t *testing.T) {
	mustAnswerTheSame(t, logQuestions(), askLogs)
}

func TestLogsStayAsTheyWere(t *testing.T) {
	for _, q := range logQuestions() {
		log, more := roomyLog(q.log), roomyLog(q.more)
		wholeLog, wholeMore := slices.Clone(log[:cap(log)]), slices.Clone(more[:cap(more)])
		askLogs(logAsked{log, more, q.index, q.term})
		if !slices.Equal(log[:cap(log)], wholeLog) || !slices.Equal(more[:cap(more)], wholeMore) {
			t.Fatalf("%v or %v, or the room behind them, was changed", q.log, q.more)
		}
	}
}

func TestLogsAnswerTheSameWhateverRoomThereIs(t *testing.T) {
	for _, q := range logQuestions() {
		roomed := logAsked{roomyLog(q.log), roomyLog(q.more), q.index, q.term}
		bare := logAsked{slices.Clip(slices.Clone(q.log)), slices.Clip(slices.Clone(q.more)), q.index, q.term}
		if first, second := askLogs(roomed), askLogs(bare); !reflect.DeepEqual(first, second) {
			t.Fatalf("%v is answered as %v and as %v", q, first, second)
		}
	}
}

func TestTakeEntriesAnswersNewMemory(t *testing.T) {
	for _, q := range logQuestions() {
		log, more := roomyLog(q.log), roomyLog(q.more)
		wholeLog, wholeMore := slices.Clone(log[:cap(log)]), slices.Clone(more[:cap(more)])
		one, other := impl.TakeEntries(log, q.index, q.term, more).Entries, impl.TakeEntries(log, q.index, q.term, more).Entries
		kept := slices.Clone(other)
		spoilLog(one)
		if !slices.Equal(other, kept) || !slices.Equal(log[:cap(log)], wholeLog) || !slices.Equal(more[:cap(more)], wholeMore) {
			t.Fatalf("what %v makes of %v shares memory", q.more, q.log)
		}
		spoilLog(log)
		spoilLog(more)
		if !slices.Equal(other, kept) {
			t.Fatalf("what %v makes of %v is the memory that it was given", q.more, q.log)
		}
	}
}

func TestALogMayBeTakenIntoItself(t *testing.T) {
	for _, log := range manyLogs(200) {
		room := roomyLog(log)
		mustTakeEntries(t, room, 0, 0, room, log)
		for cut := range len(log) {
			mustTakeEntries(t, room[:cut], 0, 0, room, log)
			checkTake(t, room, int64(len(log)), impl.LastOf(log).Term, room[cut:])
		}
		if !slices.Equal(room, log) {
			t.Fatalf("%v was changed", log)
		}
	}
}

func TestLogsOfNoEntriesAndNilAreTheSame(t *testing.T) {
	random := rand.New(rand.NewSource(80))
	for _, log := range append(manyLogs(100), manyBadLogs(100)...) {
		numbers := nearNumbers(log)
		index, term := numbers[random.Intn(len(numbers))], numbers[random.Intn(len(numbers))]
		for _, at := range [][2]int64{{0, 0}, {int64(len(log)), impl.LastOf(log).Term}, {index, term}} {
			for _, pair := range [][2]logAsked{
				{{log, nil, at[0], at[1]}, {log, []impl.Entry{}, at[0], at[1]}}, {{nil, log, at[0], at[1]}, {[]impl.Entry{}, log, at[0], at[1]}},
				{{nil, nil, at[0], at[1]}, {[]impl.Entry{}, []impl.Entry{}, at[0], at[1]}},
			} {
				if first, second := askLogs(pair[0]), askLogs(pair[1]); !reflect.DeepEqual(first, second) {
					t.Fatalf("%v is answered as %v and as %v", pair, first, second)
				}
			}
		}
	}
}
