package tests

import (
	"slices"
	"testing"

	"loop.example/g00222/impl"
)

// tableAsked is what the functions of the layer are asked with.
type tableAsked struct {
	list   []impl.Share
	table  []int64
	number int64
}

// tableQuestions pairs lists with and without a fault, tables and what is none, names, hashes and what is far off.
func tableQuestions() []tableAsked {
	lists := manyShares(30)
	for _, code := range []int64{impl.ErrMany, impl.ErrRange, impl.ErrForm} {
		lists = append(lists, badShares()[code]...)
	}
	tables := append(badTables(), tableOf(0), tableOf(5), countedTable(), wantTable(sharesOf(5, 1, 9, 1)))
	numbers := append([]int64{1, 2, 5, 9, 30, 31, 999}, notNames()...)
	var all []tableAsked
	for i := range 400 {
		all = append(all, tableAsked{lists[i%len(lists)], tables[i%len(tables)], numbers[i%len(numbers)]})
	}
	return all
}

// askTables calls every function of the layer and gives all that they answer.
func askTables(q tableAsked) []any {
	return []any{
		impl.SharesFault(q.list), impl.FillTable(q.list), impl.CountOf(q.table, q.number), impl.SpreadOf(q.table, q.list),
		impl.LookTable(q.table, q.number), impl.MovedOf(q.table, tableOf(5)), impl.MovedOf(tableOf(5), q.table), impl.WithoutShare(q.list, q.number),
	}
}

func TestTablesAnswerTheSameEachTime(t *testing.T) {
	mustAnswerTheSame(t, tableQuestions(), askTables)
}

// roomy copies a list into memory that has more room behind it, filled with other.
func roomy[T any](list []T, other T) []T {
	room := append(slices.Clone(list), slices.Repeat([]T{other}, 40)...)
	return room[:len(list)]
}

func TestTablesLeaveTheirArgumentsAsTheyWere(t *testing.T) {
	for _, q := range tableQuestions() {
		list, table := roomy(q.list, impl.Share{Name: 500, Weight: 3}), roomy(q.table, 77)
		wholeList, wholeTable := slices.Clone(list[:cap(list)]), slices.Clone(table[:cap(table)])
		other := slices.Clone(table)
		askTables(tableAsked{list, table, q.number})
		impl.MovedOf(table, other)
		for _, share := range q.list {
			impl.WithoutShare(list, share.Name)
		}
		if !slices.Equal(list[:cap(list)], wholeList) {
			t.Errorf("the shares %v, or the room behind them, were changed", q.list)
		}
		if !slices.Equal(table[:cap(table)], wholeTable) || !slices.Equal(other, q.table) {
			t.Errorf("the table %v, or the room behind it, was changed", q.table)
		}
	}
}

func TestFillTableAnswersNewMemory(t *testing.T) {
	for _, list := range manyShares(50) {
		one, other := impl.FillTable(list).List, impl.FillTable(list).List
		for i := range one[:cap(one)] {
			one[:cap(one)][i] = -7
		}
		if !slices.Equal(other, wantTable(list)) || !slices.Equal(impl.FillTable(list).List, wantTable(list)) {
			t.Errorf("two tables of %v share memory", list)
		}
	}
}

func TestWithoutShareAnswersNewMemory(t *testing.T) {
	for _, plain := range manyShares(50) {
		for _, share := range plain {
			list := roomy(plain, impl.Share{Name: 500, Weight: 3})
			whole := slices.Clone(list[:cap(list)])
			one, other := impl.WithoutShare(list, share.Name).Shares, impl.WithoutShare(list, share.Name).Shares
			kept := slices.Clone(other)
			for i := range one[:cap(one)] {
				one[:cap(one)][i] = impl.Share{Name: -7, Weight: -7}
			}
			if !slices.Equal(list[:cap(list)], whole) || !slices.Equal(other, kept) {
				t.Errorf("what WithoutShare(%v, %d) answers shares memory", plain, share.Name)
			}
			for i := range list {
				list[i] = impl.Share{Name: -8, Weight: -8}
			}
			if !slices.Equal(other, kept) {
				t.Errorf("what WithoutShare(%v, %d) answers is the memory that it was given", plain, share.Name)
			}
		}
	}
}

func TestTablesOfNoSharesAndNilAreTheSame(t *testing.T) {
	full := tableOf(5)
	if impl.SharesFault(nil) != impl.SharesFault([]impl.Share{}) || impl.SpreadOf(full, nil) != impl.SpreadOf(full, []impl.Share{}) {
		t.Error("no shares and nil are two things")
	}
	one, other := impl.FillTable(nil), impl.FillTable([]impl.Share{})
	if one.Code != other.Code || !slices.Equal(one.List, other.List) {
		t.Errorf("the table of nil is %v, that of no shares %v", one, other)
	}
	if impl.WithoutShare(nil, 5).Code != impl.WithoutShare([]impl.Share{}, 5).Code {
		t.Error("no shares and nil are two things without one")
	}
	if impl.LookTable(nil, 5) != impl.LookTable([]int64{}, 5) || impl.MovedOf(nil, full) != impl.MovedOf([]int64{}, full) {
		t.Error("no table and nil are two things")
	}
}
