package tests

import (
	"cmp"
	"reflect"
	"slices"
	"testing"

	"loop.example/g00222/impl"
)

// shape is how the lists of a copy lie: with how much room behind them, in which other things stand;
// those without elements as nil or not; and whether the room behind those that are copied is part of the copy.
type shape struct {
	room  int
	empty bool
	whole bool
}

// shaped copies a value with all lists that can be reached by it, so that no two of them share memory.
func shaped[T any](s shape, value T) T {
	return s.of(reflect.ValueOf(value)).Interface().(T)
}

func (s shape) of(value reflect.Value) reflect.Value {
	switch value.Kind() {
	case reflect.Struct:
		copied := reflect.New(value.Type()).Elem()
		for i := range value.NumField() {
			copied.Field(i).Set(s.of(value.Field(i)))
		}
		return copied
	case reflect.Slice:
		return s.ofList(value)
	}
	return value
}

func (s shape) ofList(list reflect.Value) reflect.Value {
	if s.whole {
		list = list.Slice(0, list.Cap())
	}
	count := list.Len()
	if count == 0 && s.room == 0 && !s.empty {
		return reflect.Zero(list.Type())
	}
	copied := reflect.MakeSlice(list.Type(), count+s.room, count+s.room)
	for i := range count {
		copied.Index(i).Set(s.of(list.Index(i)))
	}
	for i := range s.room {
		copied.Index(count + i).Set(strange(list.Type().Elem()))
	}
	return copied.Slice(0, count)
}

// strange gives a value that stands nowhere.
func strange(kind reflect.Type) reflect.Value {
	value := reflect.New(kind).Elem()
	switch kind.Kind() {
	case reflect.Struct:
		for i := range kind.NumField() {
			value.Field(i).Set(strange(kind.Field(i).Type))
		}
	case reflect.Int64:
		value.SetInt(-9)
	case reflect.Uint8:
		value.SetUint(0xEE)
	case reflect.Bool:
		value.SetBool(true)
	}
	return value
}

// stretch is where a list lies in memory, with the room behind it.
type stretch struct{ start, end uintptr }

// stretchesOf gives where all lists lie that can be reached by a value.
func stretchesOf(value reflect.Value) []stretch {
	var all []stretch
	switch value.Kind() {
	case reflect.Struct:
		for i := range value.NumField() {
			all = append(all, stretchesOf(value.Field(i))...)
		}
	case reflect.Slice:
		if value.Cap() > 0 {
			size := uintptr(value.Cap()) * value.Type().Elem().Size()
			all = append(all, stretch{value.Pointer(), value.Pointer() + size})
		}
		for i := range value.Len() {
			all = append(all, stretchesOf(value.Index(i))...)
		}
	}
	return all
}

// lieApart tells whether no two lists of an answer share memory, and none shares any with what was given.
func lieApart(answer any, given ...any) bool {
	byStart := func(a, b stretch) int { return cmp.Compare(a.start, b.start) }
	own := slices.SortedFunc(slices.Values(stretchesOf(reflect.ValueOf(answer))), byStart)
	for i := range len(own) - 1 {
		if own[i].end > own[i+1].start {
			return false
		}
	}
	for _, one := range given {
		for _, other := range stretchesOf(reflect.ValueOf(one)) {
			if slices.ContainsFunc(own, func(piece stretch) bool { return piece.start < other.end && other.start < piece.end }) {
				return false
			}
		}
	}
	return true
}

// layable is a question that can be asked with lists that lie in another way.
type layable[Q any] interface{ laid(s shape) Q }

// mustStayAsTheyWere asks all questions, and wants their lists, and the room behind these, to be what they were.
func mustStayAsTheyWere[Q layable[Q]](t *testing.T, questions []Q, ask func(Q) []any) {
	t.Helper()
	for _, q := range questions {
		q = q.laid(shape{room: 2})
		kept := q.laid(shape{whole: true})
		ask(q)
		if !reflect.DeepEqual(q.laid(shape{whole: true}), kept) {
			t.Fatalf("%s, or the room behind its lists, was changed", short(q))
		}
	}
}

// mustAnswerHoweverListsLie wants the same answer whether lists have room behind them, and whether those without elements are nil.
func mustAnswerHoweverListsLie[Q layable[Q]](t *testing.T, questions []Q, ask func(Q) []any) {
	t.Helper()
	for _, q := range questions {
		first := ask(q.laid(shape{}))
		for _, s := range []shape{{room: 2}, {empty: true}} {
			if second := ask(q.laid(s)); !reflect.DeepEqual(first, second) {
				t.Fatalf("%s is answered as %s and as %s", short(q), short(first), short(second))
			}
		}
	}
}

func TestShapesAreAsTheySay(t *testing.T) {
	n := followerOf(0, 5, -1, 1, 2)
	same := func(a, b impl.Node) bool { return reflect.DeepEqual(bareNode(a), bareNode(b)) }
	for _, s := range []shape{{}, {room: 3}, {empty: true}, {whole: true}} {
		if copied := shaped(s, n); !same(copied, n) || !lieApart(copied, n) {
			t.Errorf("%+v copies %+v as %+v", s, n, copied)
		}
	}
	roomed := shaped(shape{room: 3}, n)
	if cap(roomed.Log) != 5 || roomed.Log[:3][2].Cmd.Kind != -9 || cap(roomed.Votes) != 3 || roomed.Votes[:1][0] != -9 {
		t.Errorf("there is no room in %+v", roomed)
	}
	if whole := shaped(shape{whole: true}, roomed); len(whole.Log) != 5 || len(whole.Next) != 3 {
		t.Errorf("%+v is not all of %+v", whole, roomed)
	}
	if emptied := shaped(shape{empty: true}, n); emptied.Votes == nil || shaped(shape{}, emptied).Votes != nil {
		t.Error("lists without elements are not as they are to be")
	}
}

func TestListsThatShareMemoryDoNotLieApart(t *testing.T) {
	log := markedLog(1, 1, 2, 3, 4)
	for _, answer := range []impl.NodeResult{
		{Send: []impl.Mail{{Entries: log[:2]}, {Entries: log[1:3]}}},
		{Node: impl.Node{Log: log}, Send: []impl.Mail{{Entries: log[3:]}}},
		// One that ends ahead of the other, but may grow into it.
		{Send: []impl.Mail{{Entries: log[:1]}, {Entries: log[2:]}}},
	} {
		if lieApart(answer) {
			t.Errorf("two lists of %+v are said to lie apart", answer)
		}
	}
	pieces := impl.NodeResult{Send: []impl.Mail{{Entries: log[:1:1]}, {Entries: log[1:3:3]}}}
	if !lieApart(pieces) || lieApart(pieces, impl.Node{Log: log[2:]}) || !lieApart(pieces, impl.Node{Log: log[3:]}, impl.Entry{}) {
		t.Error("what lies apart is not told from what does not")
	}
}
