package saw_test

import (
	"math"
	"math/rand/v2"
	"reflect"
	"slices"
	"sync"
	"testing"

	"muscovado/api"
	"muscovado/loaf"
	"muscovado/saw"
	"muscovado/weigh"
)

// asked are the arguments of all functions beside the saw.
type asked struct {
	kind, pounds, want int
	wants, crushed     ints
	more               api.Want
}

// answer is what a function returns: its results in a list, and its error.
type answer struct {
	name    string
	results []any
	e       api.Errno
}

// answers returns what all functions but Check say.
func answers(s api.Saw, a asked) []answer {
	var list []answer
	add := func(name string, e api.Errno, results ...any) {
		list = append(list, answer{name, results, e})
	}
	n, e := saw.Slices(s, a.kind, a.pounds)
	add("Slices", e, n)
	add("Right", saw.Right(s, a.wants, a.crushed))
	l, n, e := saw.Left(s, a.wants, a.crushed)
	add("Left", e, l, n)
	l, n, e = saw.Crush(s, a.wants)
	add("Crush", e, l, n)
	l, n, e = saw.Fewest(s)
	add("Fewest", e, l, n)
	l, n, e = saw.Best(s)
	add("Best", e, l, n)
	l, e = saw.Refused(s)
	add("Refused", e, l)
	n, e = saw.Verdict(s, a.want)
	add("Verdict", e, n)
	n, e = saw.Worth(s, a.want)
	add("Worth", e, n)
	n, e = saw.Need(s, a.kind)
	add("Need", e, n)
	n, e = saw.Kerf(s)
	add("Kerf", e, n)
	x, e := saw.Add(s, a.more)
	add("Add", e, x)
	return list
}

// answerOf returns what one of the functions says.
func answerOf(name string, s api.Saw, a asked) answer {
	list := answers(s, a)
	return list[slices.IndexFunc(list, func(x answer) bool { return x.name == name })]
}

// zero returns whether a result is a zero value; an empty list is one, too.
func zero(x any) bool {
	if list, ok := x.(ints); ok {
		return len(list) == 0
	}
	return reflect.ValueOf(x).IsZero()
}

// sameResult returns whether two results are the same; nil and empty lists are.
func sameResult(a, b any) bool {
	if s, ok := a.(api.Saw); ok {
		return sameSaw(s, b.(api.Saw))
	}
	return reflect.DeepEqual(a, b) || zero(a) && zero(b)
}

func sameSaw(a, b api.Saw) bool {
	return slices.EqualFunc(a.Loaves, b.Loaves, slices.Equal[ints]) && slices.Equal(a.Stock, b.Stock) && a.Kerf == b.Kerf && slices.Equal(a.Wants, b.Wants)
}

func sameAnswer(a, b answer) bool {
	return a.e == b.e && slices.EqualFunc(a.results, b.results, sameResult)
}

// failures returns the errors by the names of the functions, and whether all other results are zero values wherever there is one.
func failures(list []answer) (errs map[string]api.Errno, clean bool) {
	errs, clean = map[string]api.Errno{}, true
	for _, x := range list {
		errs[x.name] = x.e
		for _, r := range x.results {
			clean = clean && (x.e == api.OK || zero(r))
		}
	}
	return errs, clean
}

// best returns Best of a valid saw.
func best(t *testing.T, s api.Saw) (ints, int) {
	t.Helper()
	list, pay, e := saw.Best(s)
	if e != api.OK {
		t.Fatalf("%+v: Best: %d", s, e)
	}
	return list, pay
}

// servable returns whether Crush says that some wants of a valid saw can be served, and with how many cones.
func servable(t *testing.T, s api.Saw, list ints) (cones int, can bool) {
	t.Helper()
	_, cones, e := saw.Crush(s, list)
	if e != api.OK && e != api.ErrNothing {
		t.Fatalf("%+v: Crush(%v): %d", s, list, e)
	}
	return cones, e == api.OK
}

// all returns the list of all wants.
func all(s api.Saw) ints {
	return numbers(len(s.Wants))
}

// P8.1, and R1 and R3: the errors of a saw, and their order.
func TestCheck(t *testing.T) {
	with := func(change func(s *api.Saw)) api.Saw { return but(exampleS(), change) }
	// Loaves, with all wrong that comes behind them.
	loaves := func(l ...ints) api.Saw {
		return with(func(s *api.Saw) { s.Loaves, s.Stock = l, make(ints, len(l)+1) })
	}
	stock := func(n ...int) api.Saw { return with(func(s *api.Saw) { s.Stock, s.Kerf = n, 4 }) }
	wide := func(n int) api.Saw { return with(func(s *api.Saw) { s.Kerf, s.Wants = n, make(wants, 6) }) }
	of := func(w ...api.Want) api.Saw { return with(func(s *api.Saw) { s.Wants = w }) }
	want := func(sort, kind, amount, pay int) api.Saw {
		return of(api.Want{Sort: sort, Kind: kind, Amount: amount, Pay: pay}, api.Want{Sort: 9})
	}
	ok, value, missing, sequence, excess, shortage, sort := api.OK, api.ErrValue, api.ErrMissing, api.ErrSequence, api.ErrExcess, api.ErrShortage, api.ErrSort
	for i, x := range []struct {
		s    api.Saw
		want api.Errno
	}{
		{exampleS(), ok}, {exampleT(), ok}, {api.Saw{}, shortage}, {api.Saw{Loaves: []ints{{1}}, Stock: ints{0}}, ok},
		{loaves(), shortage}, {loaves(nil, nil, nil, nil), excess}, {loaves(ints{9}, ints{9}, ints{9}, ints{9}), excess}, {with(func(s *api.Saw) {
			s.Loaves, s.Stock, s.Wants = []ints{{9, 9, 9, 9}, {1, 1, 1, 1}, {1}}, ints{4, 0, 4}, nil
		}), ok},
		{loaves(nil), shortage}, {loaves(ints{}, ints{0}), shortage}, {loaves(ints{0}, nil), value}, {loaves(ints{1}, nil), shortage}, {loaves(ints{1}, ints{2}, nil), shortage},
		{loaves(ints{0, 0, 0, 0, 0}), excess}, {loaves(ints{1, 1, 1, 1, 1}, nil), excess}, {loaves(ints{1}, ints{1, 1, 1, 1, 1}), excess},
		{loaves(ints{0}), value}, {loaves(ints{10}), value}, {loaves(ints{-1}), value}, {loaves(ints{math.MaxInt}), value}, {loaves(ints{math.MinInt}), value}, {loaves(ints{9, 9, 10}), value}, {loaves(ints{9, 5, 0}), value}, {loaves(ints{9, 5, 10}), value},
		{loaves(ints{1, 2}), sequence}, {loaves(ints{5, 4, 5}), sequence}, {loaves(ints{5, 6, 0}), sequence}, {loaves(ints{5, 10, 11}), value}, {loaves(ints{5, 0, 6}), value}, {loaves(ints{5, 6}, ints{0}), sequence}, {loaves(ints{5, 0}, ints{5, 6}), value}, {loaves(ints{9}, ints{8, 9}), sequence},
		// A loaf is compared with none of another kind.
		{with(func(s *api.Saw) { s.Loaves = []ints{{1, 1}, {9, 9, 9}} }), ok}, {loaves(ints{5}), api.ErrConflict}, {loaves(ints{5, 5, 5}, ints{9, 1}), api.ErrConflict},

		{stock(), api.ErrConflict}, {stock(1), api.ErrConflict}, {stock(1, 1, 1), api.ErrConflict}, {stock(9), api.ErrConflict}, {stock(-1, -1, -1), api.ErrConflict},
		{stock(-1, 0), value}, {stock(0, -1), value}, {stock(5, 0), value}, {stock(0, 5), value}, {stock(0, math.MaxInt), value}, {stock(math.MinInt, 0), value}, {with(func(s *api.Saw) { s.Stock = ints{4, 0} }), ok},
		{wide(-1), value}, {wide(4), value}, {wide(math.MaxInt), value}, {wide(math.MinInt), value}, {wide(0), excess}, {wide(3), excess}, {with(func(s *api.Saw) { s.Kerf = 0 }), ok}, {with(func(s *api.Saw) { s.Kerf = 3 }), ok},

		{of(), ok}, {of(slices.Repeat(wants{whole(1, 30)}, 5)...), ok}, {of(slices.Repeat(wants{whole(1, 30)}, 6)...), excess}, {of(make(wants, 5)...), ok}, {of(slices.Repeat(wants{{Sort: -1}}, 6)...), excess},
		{want(-1, -9, -9, -9), sort}, {want(3, 9, 9, 99), sort}, {want(math.MaxInt, 0, 0, 0), sort}, {want(math.MinInt, 0, 0, 0), sort},
		{want(api.Whole, -1, 9, 99), missing}, {want(api.Whole, 2, 9, 99), missing}, {want(api.Top, -1, 9, 99), missing}, {want(api.Top, 2, 9, 99), missing}, {want(api.Crushed, -2, 99, 99), missing}, {want(api.Crushed, 2, 99, 99), missing}, {want(api.Crushed, math.MaxInt, 1, 1), missing}, {want(api.Whole, math.MinInt, 0, 1), missing}, {want(api.Top, math.MaxInt, 1, 1), missing},
		{want(api.Whole, 0, 1, 0), value}, {want(api.Whole, 0, -1, 0), value}, {want(api.Whole, 0, math.MinInt, 0), value},
		{want(api.Crushed, 0, 0, 0), value}, {want(api.Crushed, -1, 0, 0), value}, {want(api.Crushed, 0, 61, 0), value}, {want(api.Crushed, -1, 61, 0), value}, {want(api.Crushed, 0, math.MaxInt, 0), value},
		{want(api.Top, 0, 0, 0), value}, {want(api.Top, 0, 3, 0), value}, {want(api.Top, 1, 2, 0), value}, {want(api.Top, 0, -1, 0), value}, {with(func(s *api.Saw) { s.Loaves, s.Wants = []ints{{5}, {5}}, wants{top(0, 1, 0)} }), value}, {with(func(s *api.Saw) { s.Loaves, s.Wants = []ints{{5}, {5}}, wants{top(1, 0, 0)} }), value},
		{want(api.Whole, 0, 0, -1), value}, {want(api.Whole, 0, 0, 31), value}, {want(api.Crushed, 0, 1, -1), value}, {want(api.Crushed, -1, 60, 31), value}, {want(api.Top, 0, 1, math.MaxInt), value}, {want(api.Top, 0, 1, math.MinInt), value},
		{want(api.Whole, 0, 0, 0), sort}, {want(api.Whole, 1, 0, 30), sort}, {want(api.Crushed, -1, 1, 0), sort}, {want(api.Crushed, 1, 60, 30), sort}, {want(api.Top, 0, 2, 0), sort}, {want(api.Top, 1, 1, 30), sort},
		{of(whole(1, 30), crushed(-1, 60, 30), crushed(0, 1, 0), top(0, 2, 30), top(1, 1, 0)), ok}, {of(whole(0, 0), whole(0, 0), whole(0, 0), whole(0, 0), top(1, 2, 0)), value}, {of(whole(2, 0), top(1, 2, 0)), missing}, {of(top(1, 2, 0), whole(2, 0)), value},
	} {
		if e := saw.Check(x.s); e != x.want {
			t.Errorf("%d: Check = %d, want %d", i, e, x.want)
		}
		if x.want == ok {
			continue
		}
		// Check's error comes before that of any other argument, and alone.
		for _, a := range []asked{{}, {kind: -1, want: -1, wants: ints{-1}, crushed: ints{-1}, more: api.Want{Sort: 9}}, {kind: 9, want: 9, wants: ints{1, 0}, crushed: ints{9, 9}, more: whole(0, 1)}} {
			errs, clean := failures(answers(x.s, a))
			for name, e := range errs {
				if e != x.want || !clean {
					t.Errorf("%d: %s: %d, clean %t", i, name, e, clean)
				}
			}
		}
	}
}

// The errors of the other arguments, and their order.
func TestArguments(t *testing.T) {
	ok, value, missing, sequence, excess, shortage := api.OK, api.ErrValue, api.ErrMissing, api.ErrSequence, api.ErrExcess, api.ErrShortage
	s := exampleS()
	for i, x := range []struct {
		a    asked
		want map[string]api.Errno // those that are not OK
	}{
		{asked{kind: 1, want: 3}, nil},
		{asked{kind: 2}, map[string]api.Errno{"Slices": missing, "Need": missing}},
		{asked{kind: -1}, map[string]api.Errno{"Slices": missing, "Need": missing}},
		{asked{kind: -1, pounds: 99}, map[string]api.Errno{"Slices": missing, "Need": missing}},
		{asked{kind: math.MaxInt}, map[string]api.Errno{"Slices": missing, "Need": missing}},
		{asked{want: 4}, map[string]api.Errno{"Verdict": missing, "Worth": missing}},
		{asked{want: -1}, map[string]api.Errno{"Verdict": missing, "Worth": missing}},
		{asked{want: math.MinInt}, map[string]api.Errno{"Verdict": missing, "Worth": missing}},
	} {
		x.a.crushed, x.a.more = ints{0, 2}, crushed(-1, 1, 0)
		got, clean := failures(answers(s, x.a))
		for name, e := range got {
			if e != x.want[name] || !clean {
				t.Errorf("%d: %s: %d, want %d, clean %t", i, name, e, x.want[name], clean)
			}
		}
	}
	for i, x := range []struct {
		wants, crushed ints
		want           api.Errno
		list           bool // the list of wants is wrong, which Crush finds, too
	}{
		{nil, ints{0, 0}, ok, false}, {all(s), ints{0, 2}, ok, false}, {ints{0, 2}, ints{1, 0}, ok, false},
		{ints{4}, ints{9}, missing, true}, {ints{-1}, ints{9}, missing, true}, {ints{math.MinInt}, nil, missing, true}, {ints{math.MaxInt}, nil, missing, true}, {ints{3, 4}, nil, missing, true},
		{ints{1, 0}, nil, sequence, true}, {ints{1, 1}, ints{9, 9, 9}, sequence, true}, {ints{0, 2, 1, 9}, nil, sequence, true}, {ints{0, 9, 2, 1}, nil, missing, true}, {ints{1, -1}, nil, missing, true}, {ints{0, 1, 2, 3, 3}, nil, sequence, true}, {ints{0, 1, 2, 3, 4}, nil, missing, true},
		{ints{0}, nil, shortage, false}, {ints{0}, ints{9}, shortage, false}, {ints{0}, ints{0, 0, 9}, excess, false}, {ints{0}, ints{9, 9, 9}, excess, false},
		{ints{0}, ints{-1, 0}, value, false}, {ints{0}, ints{0, 5}, value, false}, {ints{0}, ints{math.MaxInt, 0}, value, false}, {ints{0}, ints{0, math.MinInt}, value, false}, {ints{2}, ints{4, 5}, value, false},
		{ints{0}, ints{4, 4}, api.ErrBarred, false}, {ints{0}, ints{2, 0}, api.ErrBarred, false},
	} {
		l, n, e := saw.Left(s, x.wants, x.crushed)
		_, _, f := saw.Crush(s, x.wants)
		due := ok
		if x.list {
			due = x.want
		}
		if got := saw.Right(s, x.wants, x.crushed); got != x.want || e != x.want || f != due || e != ok && (len(l) > 0 || n != 0) {
			t.Error(i, got, l, n, e, f)
		}
	}
}

// The table of the chapter.
func TestExamples(t *testing.T) {
	s, u := exampleS(), exampleT()
	for i, x := range []struct {
		change func(s *api.Saw)
		want   api.Errno
	}{
		{func(s *api.Saw) {}, api.OK},
		{func(s *api.Saw) { s.Loaves = nil }, api.ErrShortage},
		{func(s *api.Saw) { s.Loaves[0] = ints{2, 3, 5} }, api.ErrSequence},
		{func(s *api.Saw) { s.Kerf = 4 }, api.ErrValue},
		{func(s *api.Saw) { s.Wants[0].Kind = -1 }, api.ErrMissing},
		{func(s *api.Saw) { s.Wants[1].Amount = 3 }, api.ErrValue},
	} {
		if e := saw.Check(but(s, x.change)); e != x.want {
			t.Error(i, e)
		}
	}
	none := ints(nil)
	plan := func(crushed ints, wants ...int) asked { return asked{wants: wants, crushed: crushed} }
	more := asked{more: whole(0, 2)}
	for i, x := range []struct {
		name string
		s    api.Saw
		a    asked
		e    api.Errno
		want []any
	}{
		{"Slices", s, asked{pounds: 4}, api.OK, []any{2}},
		{"Slices", s, asked{pounds: 10}, api.OK, []any{3}},
		{"Slices", s, asked{pounds: 11}, api.ErrNothing, []any{0}},
		{"Slices", s, asked{pounds: 0}, api.OK, []any{0}},
		{"Right", s, plan(ints{0, 2}, 0, 1, 2, 3), api.OK, nil},
		{"Right", s, plan(ints{0, 1}, 0, 1, 2, 3), api.ErrConflict, nil},
		{"Right", s, plan(ints{1, 2}, 0, 1, 2, 3), api.ErrBarred, nil},
		{"Right", s, plan(ints{0, 2}, 1, 0), api.ErrSequence, nil},
		{"Right", s, plan(ints{0, 0}, 0, 4), api.ErrMissing, nil},
		{"Left", s, plan(ints{0, 2}, 0, 1, 2, 3), api.OK, []any{ints{0, 0}, 5}},
		{"Left", s, plan(ints{0, 0}, 1), api.OK, []any{ints{1, 2}, 7}},
		{"Crush", s, plan(nil, 2), api.OK, []any{ints{1, 0}, 1}},
		{"Crush", s, plan(nil, 2, 3), api.OK, []any{ints{1, 1}, 2}},
		{"Crush", s, plan(nil, 0, 1), api.OK, []any{ints{0, 0}, 2}},
		{"Fewest", s, asked{}, api.OK, []any{ints{0, 2}, 4}},
		{"Fewest", u, asked{}, api.ErrNothing, []any{none, 0}},
		{"Best", s, asked{}, api.OK, []any{ints{0, 1, 2, 3}, 32}},
		{"Best", u, asked{}, api.OK, []any{ints{0, 1, 2}, 27}},
		{"Refused", u, asked{}, api.OK, []any{ints{0}}},
		{"Refused", s, asked{}, api.OK, []any{none}},
		{"Verdict", u, asked{want: 3}, api.OK, []any{api.No}},
		{"Verdict", u, asked{want: 0}, api.OK, []any{api.Yes}},
		{"Worth", u, asked{want: 0}, api.OK, []any{7}},
		{"Worth", u, asked{want: 3}, api.OK, []any{0}},
		{"Need", u, asked{kind: 0}, api.OK, []any{1}},
		{"Need", u, asked{kind: 1}, api.OK, []any{1}},
		{"Need", s, asked{kind: 0}, api.OK, []any{0}},
		{"Kerf", s, asked{}, api.OK, []any{3}},
		{"Kerf", u, asked{}, api.OK, []any{0}},
		{"Add", s, more, api.ErrConflict, []any{api.Saw{}}},
		{"Add", s, asked{more: api.Want{Sort: 3}}, api.ErrSort, []any{api.Saw{}}},
		{"Add", u, more, api.OK, []any{but(u, func(s *api.Saw) { s.Wants = append(s.Wants, more.more) })}},
	} {
		if got := answerOf(x.name, x.s, x.a); !sameAnswer(got, answer{x.name, x.want, x.e}) {
			t.Errorf("%d: %s: %v %d, want %v %d", i, x.name, got.results, got.e, x.want, x.e)
		}
	}
}

// P8.1 and P8.19: the slices of Slices weigh enough, one less does not.
func TestSlices(t *testing.T) {
	enough, nothing := map[int]int{}, 0
	samples(500, 1, func(s api.Saw, _ *rand.Rand) {
		for kind, loaf := range s.Loaves {
			for pounds := -3; pounds <= 39; pounds++ {
				n, e := saw.Slices(s, kind, pounds)
				if want, due := upper(loaf, pounds); n != want || e != due {
					t.Fatalf("%v: Slices(%d) = %d %d, want %d %d", loaf, pounds, n, e, want, due)
				}
				if e != api.OK {
					nothing++
					if weight(loaf...) >= pounds {
						t.Fatalf("%v: Slices(%d): %d", loaf, pounds, e)
					}
					continue
				}
				enough[n]++
				above := func(n int) int { return weight(loaf[len(loaf)-n:]...) }
				if above(n) < pounds || n > 0 && above(n-1) >= pounds {
					t.Fatalf("%v: Slices(%d) = %d", loaf, pounds, n)
				}
			}
		}
	})
	if nothing < 500 || enough[0] < 500 || enough[1] < 500 || enough[2] < 500 || enough[3] < 300 || enough[4] < 100 {
		t.Error(enough, nothing)
	}
	loaf := api.Saw{Loaves: []ints{{9, 5, 5, 1}, {1}}, Stock: ints{0, 0}}
	for i, x := range []struct {
		kind, pounds, want int
		e                  api.Errno
	}{
		{0, 1, 1, api.OK}, {0, 2, 2, api.OK}, {0, 6, 2, api.OK}, {0, 7, 3, api.OK}, {0, 11, 3, api.OK}, {0, 12, 4, api.OK}, {0, 20, 4, api.OK}, {0, 21, 0, api.ErrNothing},
		{0, 0, 0, api.OK}, {0, -1, 0, api.OK}, {0, math.MinInt, 0, api.OK}, {0, math.MaxInt, 0, api.ErrNothing}, {1, 1, 1, api.OK}, {1, 2, 0, api.ErrNothing}, {1, 0, 0, api.OK},
	} {
		if n, e := saw.Slices(loaf, x.kind, x.pounds); n != x.want || e != x.e {
			t.Error(i, n, e)
		}
	}
}

// P8.2 and P8.9: whether a plan is right, what is left over of it, and that all that its loaves weigh is accounted for.
func TestRightLeft(t *testing.T) {
	count, cut := map[api.Errno]int{}, 0
	samples(1500, 2, func(s api.Saw, dice *rand.Rand) {
		for _, list := range lists(s) {
			if dice.IntN(3) > 0 {
				continue
			}
			for range 8 {
				var crush ints
				for _, n := range s.Stock {
					crush = append(crush, min(api.MaxStock, dice.IntN(n+2)))
				}
				e := saw.Right(s, list, crush)
				l, over, f := saw.Left(s, list, crush)
				if due := wrong(s, list, crush); e != due || f != due {
					t.Fatalf("%+v: Right(%v, %v) = %d, Left %d, want %d", s, list, crush, e, f, due)
				}
				count[e]++
				if e != api.OK {
					if len(l) > 0 || over != 0 {
						t.Fatalf("%+v: Left(%v, %v) = %v %d %d", s, list, crush, l, over, f)
					}
					continue
				}
				x := serve(s, list, crush)
				for kind, n := range l {
					if n != s.Stock[kind]-x.taken[kind] {
						t.Fatalf("%+v: Left(%v, %v) = %v", s, list, crush, l)
					}
				}
				if len(l) != len(s.Loaves) || over != x.over() {
					t.Fatalf("%+v: Left(%v, %v) = %v %d", s, list, crush, l, over)
				}
				if accounts(t, s, list, l, over) > 0 {
					cut++
				}
			}
		}
	})
	if count[api.OK] < 5000 || count[api.ErrBarred] < 5000 || count[api.ErrConflict] < 2000 || cut < 1000 {
		t.Error(count, cut)
	}
}

// accounts returns what was lost by cuts if all loaves of the stock weigh what is left over, served, sold and lost together.
func accounts(t *testing.T, s api.Saw, list, loaves ints, pounds int) int {
	t.Helper()
	stock, tops, lost := 0, 0, 0
	for kind, n := range s.Stock {
		stock += n * weight(s.Loaves[kind]...)
		lost -= loaves[kind] * weight(s.Loaves[kind]...)
	}
	lost += stock - pounds
	for _, number := range list {
		switch w := s.Wants[number]; w.Sort {
		case api.Whole:
			lost -= weight(s.Loaves[w.Kind]...)
		case api.Top:
			tops++
			loaf := s.Loaves[w.Kind]
			lost -= weight(loaf[len(loaf)-w.Amount:]...)
		case api.Crushed:
			lost -= w.Amount
		}
	}
	if lost < 0 || lost > tops*s.Kerf {
		t.Fatalf("%+v: %v with %v and %d left over: %d is lost by %d cuts", s, list, loaves, pounds, lost, tops)
	}
	return lost
}

// P8.2: the edges that the terms name.
func TestRightLeftOfFew(t *testing.T) {
	of := func(kerf int, w ...api.Want) api.Saw {
		return api.Saw{Loaves: []ints{{6, 4, 1}, {2, 2}}, Stock: ints{2, 2}, Kerf: kerf, Wants: w}
	}
	ok, barred, conflict := api.OK, api.ErrBarred, api.ErrConflict
	for i, x := range []struct {
		s      api.Saw
		crush  ints
		e      api.Errno
		loaves ints
		pounds int
	}{
		{of(0), ints{0, 0}, ok, ints{2, 2}, 0}, {of(0), ints{2, 2}, ok, ints{0, 0}, 30}, {of(0), ints{3, 0}, barred, nil, 0}, {of(0), ints{0, 3}, barred, nil, 0},
		{of(0, whole(0, 1)), ints{0, 0}, ok, ints{1, 2}, 0}, {of(0, whole(0, 1)), ints{1, 0}, ok, ints{0, 2}, 11}, {of(0, whole(0, 1)), ints{2, 0}, barred, nil, 0}, {of(0, whole(1, 1), whole(1, 1), whole(1, 1)), ints{0, 0}, barred, nil, 0},
		// The slices of a top are the upper ones; the cut takes from those below, but no more than they weigh.
		{of(0, top(0, 1, 1)), ints{0, 0}, ok, ints{1, 2}, 10}, {of(0, top(0, 2, 1)), ints{0, 0}, ok, ints{1, 2}, 6}, {of(3, top(0, 1, 1)), ints{0, 0}, ok, ints{1, 2}, 7}, {of(3, top(0, 2, 1)), ints{0, 0}, ok, ints{1, 2}, 3},
		{of(1, top(1, 1, 1)), ints{0, 0}, ok, ints{2, 1}, 1}, {of(2, top(1, 1, 1)), ints{0, 0}, ok, ints{2, 1}, 0}, {of(3, top(1, 1, 1)), ints{0, 0}, ok, ints{2, 1}, 0}, {of(3, top(1, 1, 1), top(0, 2, 1)), ints{0, 0}, ok, ints{1, 1}, 3}, {of(3, top(1, 1, 1), top(1, 1, 1), top(1, 1, 1)), ints{0, 0}, barred, nil, 0},
		// Loaves that are crushed as they are lose nothing, whatever the kerf is.
		{of(3), ints{1, 1}, ok, ints{1, 1}, 15},
		// Crushed sugar of a kind is of this kind, to the pound; that of any kind is what nobody else takes.
		{of(0, crushed(0, 11, 1)), ints{1, 0}, ok, ints{1, 2}, 0}, {of(0, crushed(0, 12, 1)), ints{1, 0}, conflict, nil, 0}, {of(0, crushed(0, 12, 1)), ints{1, 2}, conflict, nil, 0}, {of(0, crushed(0, 12, 1)), ints{2, 0}, ok, ints{0, 2}, 10}, {of(0, crushed(1, 8, 1)), ints{0, 2}, ok, ints{2, 0}, 0}, {of(0, crushed(1, 1, 1)), ints{2, 0}, conflict, nil, 0},
		{of(0, crushed(-1, 15, 1)), ints{1, 1}, ok, ints{1, 1}, 0}, {of(0, crushed(-1, 16, 1)), ints{1, 1}, conflict, nil, 0}, {of(0, crushed(0, 5, 1), crushed(-1, 10, 1)), ints{1, 1}, ok, ints{1, 1}, 0}, {of(0, crushed(0, 5, 1), crushed(-1, 11, 1)), ints{1, 1}, conflict, nil, 0}, {of(0, crushed(0, 5, 1), crushed(1, 4, 1), crushed(-1, 6, 1)), ints{1, 1}, ok, ints{1, 1}, 0}, {of(0, crushed(0, 5, 1), crushed(1, 5, 1), crushed(-1, 1, 1)), ints{1, 1}, conflict, nil, 0}, {of(0, crushed(0, 6, 1), crushed(0, 6, 1)), ints{1, 1}, conflict, nil, 0}, {of(0, crushed(0, 6, 1), crushed(0, 5, 1)), ints{1, 0}, ok, ints{1, 2}, 0}, {of(0, crushed(-1, 6, 1), crushed(-1, 6, 1)), ints{1, 0}, conflict, nil, 0},
		// So is what is below a top.
		{of(2, top(0, 1, 1), crushed(0, 8, 1)), ints{0, 0}, ok, ints{1, 2}, 0}, {of(3, top(0, 1, 1), crushed(0, 8, 1)), ints{0, 0}, conflict, nil, 0}, {of(2, top(0, 1, 1), crushed(1, 1, 1)), ints{0, 0}, conflict, nil, 0}, {of(2, top(0, 1, 1), crushed(-1, 8, 1)), ints{0, 0}, ok, ints{1, 2}, 0}, {of(2, top(0, 1, 1), crushed(-1, 9, 1)), ints{0, 0}, conflict, nil, 0},
		// Too many loaves come before too little sugar, whatever kinds these are of.
		{of(0, crushed(0, 60, 1)), ints{0, 3}, barred, nil, 0}, {of(0, crushed(-1, 60, 1), whole(1, 1)), ints{0, 2}, barred, nil, 0},
	} {
		list := all(x.s)
		l, n, e := saw.Left(x.s, list, x.crush)
		if f := saw.Right(x.s, list, x.crush); e != x.e || f != x.e || n != x.pounds || !slices.Equal(l, x.loaves) {
			t.Error(i, l, n, e, f)
		}
	}
}

// P8.3 and P8.10: the plan with the fewest cones, of several the one that leaves the fewest pounds over, of several the first one.
func TestCrush(t *testing.T) {
	nothing, byOver, byOrder := 0, 0, 0
	samples(5000, 3, func(s api.Saw, dice *rand.Rand) {
		for _, list := range lists(s) {
			crush, cones, e := saw.Crush(s, list)
			b := bestFor(s, list)
			if (e == api.OK) != b.some || cones != b.cones || !slices.Equal(crush, b.crush) {
				t.Fatalf("%+v: Crush(%v) = %v %d %d, want %+v", s, list, crush, cones, e, b)
			}
			if e != api.OK {
				nothing++
				if e != api.ErrNothing {
					t.Fatalf("%+v: Crush(%v): %d", s, list, e)
				}
			}
			if len(list) == len(s.Wants) {
				if c, n, f := saw.Fewest(s); f != e || n != cones || !slices.Equal(c, crush) {
					t.Fatalf("%+v: Fewest = %v %d %d, Crush %v %d %d", s, c, n, f, crush, cones, e)
				}
			}
		}
		// All plans are tried: Right and Left tell which of them are right, and what they leave over.
		list := lists(s)[dice.IntN(1<<len(s.Wants))]
		crush, cones, e := saw.Crush(s, list)
		_, over, _ := saw.Left(s, list, crush)
		for _, c := range crushings(s.Stock) {
			l, n, f := saw.Left(s, list, c)
			if f != api.OK {
				continue
			}
			taken := weight(s.Stock...) - weight(l...)
			worse := taken > cones || taken == cones && (n > over || n == over && slices.Compare(c, crush) > 0)
			if e != api.OK || !worse && !slices.Equal(c, crush) {
				t.Fatalf("%+v: Crush(%v) = %v %d %d, but %v", s, list, crush, cones, e, c)
			}
			if taken == cones && n > over {
				byOver++
			} else if taken == cones && !slices.Equal(c, crush) {
				byOrder++
			}
		}
	})
	if nothing < 5000 || byOver < 200 || byOrder < 100 {
		t.Error(nothing, byOver, byOrder)
	}
}

// P8.3: heavy loaves and light ones, rests that are enough, and equal kinds.
func TestCrushOfFew(t *testing.T) {
	of := func(stock ints, w ...api.Want) api.Saw {
		return api.Saw{Loaves: []ints{{5, 3, 2}, {4, 2}, {5, 5}}, Stock: stock, Kerf: 1, Wants: w}
	}
	for i, x := range []struct {
		s     api.Saw
		crush ints
		cones int
	}{
		{of(ints{0, 0, 0}), ints{0, 0, 0}, 0}, {of(ints{4, 4, 4}), ints{0, 0, 0}, 0},
		// Fewer cones, then fewer pounds over, then the first list.
		{of(ints{4, 4, 4}, crushed(-1, 6, 1)), ints{0, 1, 0}, 1}, {of(ints{4, 4, 4}, crushed(-1, 7, 1)), ints{0, 0, 1}, 1}, {of(ints{4, 4, 4}, crushed(-1, 10, 1)), ints{0, 0, 1}, 1}, {of(ints{4, 4, 0}, crushed(-1, 10, 1)), ints{1, 0, 0}, 1}, {of(ints{0, 4, 0}, crushed(-1, 10, 1)), ints{0, 2, 0}, 2}, {of(ints{4, 4, 4}, crushed(-1, 12, 1)), ints{0, 2, 0}, 2}, {of(ints{4, 4, 4}, crushed(-1, 13, 1)), ints{0, 1, 1}, 2}, {of(ints{4, 4, 4}, crushed(-1, 17, 1)), ints{0, 0, 2}, 2}, {of(ints{4, 4, 1}, crushed(-1, 17, 1)), ints{1, 0, 1}, 2},
		{of(ints{4, 4, 4}, crushed(-1, 60, 1)), ints{2, 0, 4}, 6}, {of(ints{2, 4, 4}, crushed(-1, 60, 1)), ints{2, 0, 4}, 6}, {of(ints{1, 4, 4}, crushed(-1, 60, 1)), ints{1, 2, 4}, 7}, {of(ints{0, 4, 4}, crushed(-1, 60, 1)), ints{0, 4, 4}, 8}, {of(ints{4, 4, 0}, crushed(-1, 60, 1)), ints{4, 4, 0}, 8}, {of(ints{4, 3, 0}, crushed(-1, 60, 1)), nil, 0},
		{of(ints{4, 4, 4}, crushed(1, 7, 1)), ints{0, 2, 0}, 2}, {of(ints{4, 1, 4}, crushed(1, 7, 1)), nil, 0}, {of(ints{4, 4, 4}, crushed(1, 7, 1), crushed(-1, 5, 1)), ints{0, 2, 0}, 2}, {of(ints{4, 4, 4}, crushed(1, 7, 1), crushed(-1, 6, 1)), ints{0, 3, 0}, 3}, {of(ints{4, 2, 4}, crushed(1, 7, 1), crushed(-1, 6, 1)), ints{0, 2, 1}, 3}, {of(ints{4, 4, 4}, crushed(0, 1, 1), crushed(1, 1, 1), crushed(2, 1, 1), crushed(-1, 23, 1)), ints{1, 1, 1}, 3}, {of(ints{4, 4, 4}, crushed(0, 1, 1), crushed(1, 1, 1), crushed(2, 1, 1), crushed(-1, 24, 1)), ints{1, 2, 1}, 4},
		// Rests are there anyway: 8 - 1 of the kind 0, 5 - 1 of the kind 2.
		{of(ints{1, 1, 1}, top(0, 1, 1), crushed(0, 7, 1)), ints{0, 0, 0}, 1}, {of(ints{1, 1, 1}, top(0, 1, 1), crushed(0, 8, 1)), nil, 0}, {of(ints{2, 1, 1}, top(0, 1, 1), crushed(0, 8, 1)), ints{1, 0, 0}, 2}, {of(ints{2, 1, 1}, top(0, 1, 1), crushed(-1, 8, 1)), ints{0, 1, 0}, 2}, {of(ints{2, 1, 1}, top(0, 1, 1), top(2, 1, 1), crushed(-1, 11, 1)), ints{0, 0, 0}, 2}, {of(ints{2, 1, 1}, top(0, 1, 1), top(2, 1, 1), crushed(-1, 12, 1)), ints{0, 1, 0}, 3}, {of(ints{2, 0, 1}, top(0, 1, 1), top(2, 1, 1), crushed(-1, 12, 1)), ints{1, 0, 0}, 3},
		{of(ints{1, 0, 0}, whole(0, 1)), ints{0, 0, 0}, 1}, {of(ints{1, 0, 0}, whole(0, 1), whole(0, 1)), nil, 0}, {of(ints{1, 0, 0}, whole(0, 1), crushed(-1, 1, 1)), nil, 0}, {of(ints{1, 2, 0}, whole(0, 1), crushed(-1, 1, 1)), ints{0, 1, 0}, 2}, {of(ints{1, 0, 0}, top(0, 1, 1), whole(0, 1)), nil, 0},
	} {
		crush, cones, e := saw.Fewest(x.s)
		due := api.OK
		if x.crush == nil {
			due = api.ErrNothing
		}
		if e != due || cones != x.cones || !slices.Equal(crush, x.crush) {
			t.Error(i, crush, cones, e)
		}
	}
}

// P8.4 and P8.11: the wants that pay most, of several lists the one with the fewest cones, of several the first one.
func TestBest(t *testing.T) {
	byCones, byOrder, less := 0, 0, 0
	samples(4000, 4, func(s api.Saw, _ *rand.Rand) {
		list, pay := best(t, s)
		deals := deals(s)
		if b := bestDeal(deals); pay != b.pay || !slices.Equal(list, b.list) {
			t.Fatalf("%+v: Best = %v %d, want %+v", s, list, pay, b)
		}
		if len(list) < len(s.Wants) {
			less++
		}
		// All lists are tried: Crush tells which of them can be served.
		cones, can := servable(t, s, list)
		if !can || pays(s, list) != pay {
			t.Fatalf("%+v: Best = %v %d", s, list, pay)
		}
		for _, l := range lists(s) {
			n, can := servable(t, s, l)
			if !can || slices.Equal(l, list) {
				continue
			}
			paid := pays(s, l)
			switch {
			case paid < pay:
			case paid == pay && n > cones:
				byCones++
			case paid == pay && n == cones && slices.Compare(l, list) > 0:
				byOrder++
			default:
				t.Fatalf("%+v: Best = %v %d, but %v", s, list, pay, l)
			}
		}
	})
	if byCones < 500 || byOrder < 400 || less < 2000 {
		t.Error(byCones, byOrder, less)
	}
}

// P8.4 and P8.5: one loaf, and wants that do not pay.
func TestBestOfFew(t *testing.T) {
	of := func(stock int, w ...api.Want) api.Saw {
		return api.Saw{Loaves: []ints{{6, 4, 1}}, Stock: ints{stock}, Kerf: 3, Wants: w}
	}
	for i, x := range []struct {
		s       api.Saw
		best    ints
		pay     int
		refused ints
	}{
		{of(4), nil, 0, nil}, {of(0, whole(0, 9)), nil, 0, ints{0}}, {of(1, whole(0, 9)), ints{0}, 9, nil}, {of(1, whole(0, 0)), nil, 0, nil},
		// As much pay: fewer cones first, then the first list, and a list before those that go on from it.
		{of(1, whole(0, 4), whole(0, 4)), ints{0}, 4, ints{0}}, {of(1, whole(0, 4), whole(0, 5)), ints{1}, 5, ints{0}}, {of(1, whole(0, 4), whole(0, 3)), ints{0}, 4, ints{0}}, {of(2, whole(0, 4), whole(0, 0)), ints{0}, 4, nil}, {of(2, whole(0, 0), whole(0, 4)), ints{1}, 4, nil},
		{of(1, top(0, 1, 4), crushed(-1, 7, 0)), ints{0}, 4, nil}, {of(1, crushed(-1, 7, 0), top(0, 1, 4)), ints{0, 1}, 4, nil}, {of(2, crushed(-1, 15, 4), top(0, 1, 2), top(0, 1, 2)), ints{0, 1}, 6, ints{0}}, {of(2, crushed(-1, 11, 4), crushed(-1, 9, 2), whole(0, 2)), ints{0, 1}, 6, ints{0}}, {of(2, crushed(-1, 11, 4), crushed(-1, 11, 2), whole(0, 2)), ints{0, 1}, 6, ints{0}},
		{of(1, crushed(-1, 11, 5), crushed(-1, 6, 3), crushed(-1, 5, 2)), ints{0}, 5, ints{0}}, {of(1, crushed(-1, 6, 3), crushed(-1, 5, 2), crushed(-1, 11, 5)), ints{0, 1}, 5, ints{2}}, {of(1, crushed(-1, 6, 3), crushed(-1, 11, 5), crushed(-1, 5, 2)), ints{0, 2}, 5, ints{1}},
		// What pays most is not what refuses the fewest.
		{of(1, whole(0, 9), top(0, 1, 4), crushed(-1, 7, 4)), ints{0}, 9, ints{0}}, {of(1, whole(0, 8), top(0, 1, 4), crushed(-1, 7, 4)), ints{0}, 8, ints{0}}, {of(1, whole(0, 7), top(0, 1, 4), crushed(-1, 7, 4)), ints{1, 2}, 8, ints{0}},
		{of(1, whole(0, 1), whole(0, 1), whole(0, 1), whole(0, 1), whole(0, 1)), ints{0}, 1, ints{0, 1, 2, 3}}, {of(2, whole(0, 1), whole(0, 2), whole(0, 1), whole(0, 2), whole(0, 1)), ints{1, 3}, 4, ints{0, 1, 2}}, {of(0, whole(0, 1), top(0, 1, 1), crushed(0, 1, 1)), nil, 0, ints{0, 1, 2}}, {of(4, crushed(-1, 60, 1), whole(0, 2), crushed(0, 44, 2), whole(0, 3)), ints{1, 3}, 5, ints{0, 2}},
	} {
		list, pay := best(t, x.s)
		l, e := saw.Refused(x.s)
		if e != api.OK || pay != x.pay || !slices.Equal(list, x.best) || !slices.Equal(l, x.refused) {
			t.Error(i, list, pay, l, e)
		}
		if b := bestDeal(deals(x.s)); b.pay != x.pay || !slices.Equal(b.list, x.best) || !slices.Equal(refused(x.s), x.refused) {
			t.Error(i, "the reference:", b, refused(x.s))
		}
	}
}

// P8.5 and P8.12: the fewest wants without which all others can be served.
func TestRefused(t *testing.T) {
	count := map[int]int{}
	samples(3000, 5, func(s api.Saw, _ *rand.Rand) {
		list, e := saw.Refused(s)
		if want := refused(s); e != api.OK || !slices.Equal(list, want) {
			t.Fatalf("%+v: Refused = %v %d, want %v", s, list, e, want)
		}
		count[len(list)]++
		for _, l := range shortest(s) {
			last := slices.Equal(l, list)
			if _, can := servable(t, s, numbers(len(s.Wants), l...)); can != last {
				t.Fatalf("%+v: Refused = %v, but %v", s, list, l)
			}
			if last {
				break
			}
		}
	})
	if count[0] < 800 || count[1] < 500 || count[2] < 200 || count[3] < 80 || count[4] < 20 || count[5] < 5 {
		t.Error(count)
	}
}

// P8.6 and P8.13: whether a want is in the lists that pay most, and what it is worth.
func TestVerdictWorth(t *testing.T) {
	count, less := map[int]int{}, 0
	samples(2500, 6, func(s api.Saw, _ *rand.Rand) {
		deals := deals(s)
		for number, w := range s.Wants {
			v, e := saw.Verdict(s, number)
			n, f := saw.Worth(s, number)
			if e != api.OK || f != api.OK || v != verdict(deals, number) || n != worth(deals, number) {
				t.Fatalf("%+v: Verdict(%d) = %d %d, Worth %d %d, want %d and %d", s, number, v, e, n, f, verdict(deals, number), worth(deals, number))
			}
			if (n > 0) != (v == api.Yes) || n < 0 || n > w.Pay {
				t.Fatalf("%+v: Verdict(%d) = %d, Worth %d", s, number, v, n)
			}
			count[v]++
			if n > 0 && n < w.Pay {
				less++
			}
		}
	})
	if count[api.Yes] < 1500 || count[api.No] < 500 || count[api.Open] < 500 || less < 300 {
		t.Error(count, less)
	}
	one := func(stock int, w ...api.Want) api.Saw {
		return api.Saw{Loaves: []ints{{6, 4, 1}}, Stock: ints{stock}, Kerf: 3, Wants: w}
	}
	yes, no, open := api.Yes, api.No, api.Open
	for i, x := range []struct {
		s               api.Saw
		verdicts, worth ints
	}{
		{one(1, whole(0, 4), whole(0, 4)), ints{open, open}, ints{0, 0}}, {one(1, whole(0, 4), whole(0, 5)), ints{no, yes}, ints{0, 1}}, {one(2, whole(0, 4), whole(0, 5)), ints{yes, yes}, ints{4, 5}}, {one(0, whole(0, 4)), ints{no}, ints{0}}, {one(0, whole(0, 0)), ints{no}, ints{0}}, {one(1, whole(0, 0)), ints{open}, ints{0}},
		// More cones do not matter, nor does the order of lists.
		{one(2, whole(0, 0), whole(0, 3)), ints{open, yes}, ints{0, 3}}, {one(2, crushed(-1, 11, 4), crushed(-1, 11, 2), whole(0, 2)), ints{yes, open, open}, ints{2, 0, 0}},
		{one(1, whole(0, 9), top(0, 1, 4), crushed(-1, 7, 4)), ints{yes, no, no}, ints{1, 0, 0}}, {one(1, whole(0, 8), top(0, 1, 4), crushed(-1, 7, 4)), ints{open, open, open}, ints{0, 0, 0}}, {one(1, whole(0, 5), top(0, 1, 4), crushed(-1, 7, 4)), ints{no, yes, yes}, ints{0, 3, 3}}, {one(1, whole(0, 30), whole(0, 0)), ints{yes, no}, ints{30, 0}},
	} {
		for number := range x.verdicts {
			v, e := saw.Verdict(x.s, number)
			n, f := saw.Worth(x.s, number)
			if e != api.OK || f != api.OK || v != x.verdicts[number] || n != x.worth[number] {
				t.Error(i, number, v, n, e, f)
			}
		}
	}
}

// P8.7, P8.14 and P8.15: with the loaves of Need, and with the kerf of Kerf, all wants can be served; with a loaf less, and with a wider one, they cannot.
func TestNeedKerf(t *testing.T) {
	needs, kerfs := map[int]int{}, map[int]int{}
	samples(6000, 7, func(s api.Saw, _ *rand.Rand) {
		for kind := range s.Loaves {
			n, e := saw.Need(s, kind)
			if want, due := need(s, kind); n != want || e != due {
				t.Fatalf("%+v: Need(%d) = %d %d, want %d %d", s, kind, n, e, want, due)
			}
			more := func(n int) api.Saw { return but(s, func(s *api.Saw) { s.Stock[kind] += n }) }
			if e != api.OK {
				needs[-1]++
				n = api.MaxStock + 1
			}
			needs[n]++
			if e == api.OK && !can(more(n), all(s)) || n > 0 && can(more(n-1), all(s)) {
				t.Fatalf("%+v: Need(%d) = %d %d", s, kind, n, e)
			}
			// Fewest says the same where there may be so many.
			if _, _, f := saw.Fewest(more(n)); e == api.OK && s.Stock[kind]+n <= api.MaxStock && f != api.OK {
				t.Fatalf("%+v: Need(%d) = %d, then Fewest: %d", s, kind, n, f)
			}
		}
		k, e := saw.Kerf(s)
		if want, due := kerf(s); k != want || e != due {
			t.Fatalf("%+v: Kerf = %d %d, want %d %d", s, k, e, want, due)
		}
		if e != api.OK {
			kerfs[-1]++
			k = -1
		}
		kerfs[k]++
		for other := range api.MaxKerf + 1 {
			_, _, f := saw.Fewest(but(s, func(s *api.Saw) { s.Kerf = other }))
			if (f == api.OK) != (other <= k) {
				t.Fatalf("%+v: Kerf = %d, with %d: %d", s, k, other, f)
			}
		}
	})
	if needs[-1] < 500 || needs[0] < 500 || needs[1] < 300 || needs[2] < 60 || needs[3] < 15 || needs[4] < 3 || kerfs[-1] < 500 || kerfs[0] < 20 || kerfs[1] < 20 || kerfs[2] < 20 || kerfs[3] < 500 {
		t.Error(needs, kerfs)
	}
	const nothing = -1
	of := func(kerf int, stock ints, w ...api.Want) api.Saw {
		return api.Saw{Loaves: []ints{{6, 4, 1}, {2, 2}}, Stock: stock, Kerf: kerf, Wants: w}
	}
	for i, x := range []struct {
		s    api.Saw
		need [2]int
		kerf int
	}{
		{of(3, ints{0, 0}), [2]int{0, 0}, 3}, {of(0, ints{0, 0}, whole(0, 1)), [2]int{1, nothing}, nothing}, {of(0, ints{1, 0}, whole(0, 1), whole(1, 1)), [2]int{nothing, 1}, nothing}, {of(0, ints{0, 0}, whole(0, 1), whole(1, 1)), [2]int{nothing, nothing}, nothing},
		// There may be more than MaxStock then, which are crushed, too.
		{of(0, ints{0, 0}, crushed(-1, 44, 1)), [2]int{4, nothing}, nothing}, {of(0, ints{0, 0}, crushed(-1, 45, 1)), [2]int{nothing, nothing}, nothing}, {of(0, ints{4, 0}, crushed(-1, 60, 1)), [2]int{2, 4}, nothing}, {of(0, ints{4, 4}, crushed(0, 60, 1)), [2]int{2, nothing}, nothing}, {of(0, ints{3, 0}, crushed(-1, 60, 1), crushed(-1, 17, 1)), [2]int{4, nothing}, nothing}, {of(0, ints{3, 0}, crushed(-1, 60, 1), crushed(-1, 18, 1)), [2]int{nothing, nothing}, nothing}, {of(0, ints{4, 0}, crushed(0, 60, 1), crushed(-1, 28, 1)), [2]int{4, nothing}, nothing}, {of(0, ints{0, 4}, crushed(1, 32, 1)), [2]int{nothing, 4}, nothing}, {of(0, ints{0, 4}, crushed(1, 33, 1)), [2]int{nothing, nothing}, nothing}, {of(0, ints{4, 4}, slices.Repeat(wants{whole(1, 1)}, 5)...), [2]int{nothing, 1}, nothing},
		// What is below a top is 10 or 6, less the kerf, whatever that of the saw is.
		{of(3, ints{1, 0}, top(0, 1, 1), crushed(-1, 7, 1)), [2]int{0, 0}, 3}, {of(3, ints{1, 0}, top(0, 1, 1), crushed(-1, 8, 1)), [2]int{1, 1}, 2}, {of(0, ints{1, 0}, top(0, 1, 1), crushed(-1, 8, 1)), [2]int{0, 0}, 2}, {of(1, ints{1, 0}, top(0, 2, 1), crushed(-1, 5, 1)), [2]int{0, 0}, 1}, {of(1, ints{1, 0}, top(0, 2, 1), crushed(-1, 6, 1)), [2]int{1, 1}, 0}, {of(1, ints{1, 0}, top(0, 2, 1), crushed(-1, 7, 1)), [2]int{1, 1}, nothing}, {of(3, ints{0, 1}, top(1, 1, 1), crushed(-1, 1, 1)), [2]int{1, 1}, 1}, {of(3, ints{0, 2}, top(1, 1, 1), top(1, 1, 1), crushed(1, 3, 1)), [2]int{nothing, 1}, 0},
	} {
		for kind, want := range x.need {
			due := api.OK
			if want == nothing {
				want, due = 0, api.ErrNothing
			}
			if n, e := saw.Need(x.s, kind); n != want || e != due {
				t.Error(i, kind, n, e)
			}
		}
		want, due := x.kerf, api.OK
		if want == nothing {
			want, due = 0, api.ErrNothing
		}
		if k, e := saw.Kerf(x.s); k != want || e != due {
			t.Error(i, k, e)
		}
	}
}

// P8.8 and P8.18: Add refuses just what makes all wants together too many.
func TestAdd(t *testing.T) {
	count := map[api.Errno]int{}
	samples(3000, 8, func(s api.Saw, dice *rand.Rand) {
		w := randomWant(dice, s)
		before := copied(s)
		more, e := saw.Add(s, w)
		count[e]++
		with := but(s, func(s *api.Saw) { s.Wants = append(s.Wants, w) })
		due := api.OK
		switch {
		case len(s.Wants) == api.MaxWants:
			due = api.ErrExcess
		case can(s, all(s)) && !can(with, all(with)):
			due = api.ErrConflict
		}
		if e != due {
			t.Fatalf("%+v: Add(%v): %d, want %d", s, w, e, due)
		}
		if e != api.OK {
			with = api.Saw{}
		} else if !can(s, all(s)) {
			count[-1]++
		}
		if !sameSaw(more, with) || !sameSaw(s, before) {
			t.Fatalf("%+v: Add(%v) = %+v %d", before, w, more, e)
		}
		if e == api.OK {
			// What is written into the result does not change the argument.
			more.Loaves[0][0], more.Stock[0], more.Wants[0].Pay = -7, -7, -7
			if !sameSaw(s, before) {
				t.Fatalf("%+v became %+v", before, s)
			}
		}
	})
	if count[api.OK] < 500 || count[api.ErrExcess] < 500 || count[api.ErrConflict] < 200 || count[-1] < 200 {
		t.Error(count)
	}
	s, full := exampleS(), but(exampleS(), func(s *api.Saw) { s.Wants = append(s.Wants, whole(1, 0)) })
	for i, x := range []struct {
		s    api.Saw
		want api.Want
		e    api.Errno
	}{
		{full, api.Want{Sort: 9}, api.ErrExcess}, {full, whole(0, 1), api.ErrExcess}, {full, crushed(-1, 1, 1), api.ErrExcess},
		{s, api.Want{Sort: -1, Kind: 9}, api.ErrSort}, {s, whole(2, 99), api.ErrMissing}, {s, whole(-1, 1), api.ErrMissing}, {s, top(-1, 1, 1), api.ErrMissing}, {s, crushed(-2, 99, 1), api.ErrMissing}, {s, whole(math.MaxInt, 1), api.ErrMissing}, {s, top(1, 2, 1), api.ErrValue}, {s, top(0, 0, 1), api.ErrValue}, {s, crushed(0, 61, 1), api.ErrValue}, {s, crushed(0, 0, 1), api.ErrValue}, {s, whole(1, 31), api.ErrValue}, {s, whole(0, -1), api.ErrValue}, {s, api.Want{Amount: 1}, api.ErrValue},
		// 5 pounds are left over if all is served, and no loaf.
		{s, crushed(-1, 5, 0), api.OK}, {s, crushed(-1, 6, 0), api.ErrConflict}, {s, crushed(0, 5, 30), api.OK}, {s, crushed(1, 5, 0), api.OK}, {s, crushed(1, 8, 0), api.ErrConflict}, {s, whole(0, 30), api.ErrConflict}, {s, whole(1, 30), api.ErrConflict}, {s, top(0, 1, 1), api.ErrConflict},
		// A top leaves crushed sugar: 4 - 1, where 6 are crushed without it; 3 less of the 5 are left over.
		{s, top(1, 1, 0), api.OK}, {but(s, func(s *api.Saw) { s.Wants[3].Amount = 7 }), top(1, 1, 0), api.OK}, {but(s, func(s *api.Saw) { s.Wants[3].Amount = 8 }), top(1, 1, 0), api.ErrConflict},
		// All could not be served before, so nothing is too much.
		{exampleT(), whole(0, 0), api.OK}, {exampleT(), crushed(-1, 60, 0), api.OK}, {exampleT(), whole(9, 0), api.ErrMissing},
		{but(s, func(s *api.Saw) { s.Wants = nil }), whole(0, 0), api.OK}, {but(s, func(s *api.Saw) { s.Wants, s.Stock[0] = nil, 0 }), whole(0, 0), api.ErrConflict},
	} {
		got, e := saw.Add(x.s, x.want)
		var want api.Saw
		if x.e == api.OK {
			want = but(x.s, func(s *api.Saw) { s.Wants = append(s.Wants, x.want) })
		}
		if e != x.e || !sameSaw(got, want) {
			t.Error(i, got, e)
		}
	}
}

// P8.16: a loaf more, a narrower cut, or more pay never makes Best pay less.
func TestMore(t *testing.T) {
	count := map[string]int{}
	samples(3000, 9, func(s api.Saw, _ *rand.Rand) {
		_, pay := best(t, s)
		better := func(name string, change func(s *api.Saw)) {
			c := but(s, change)
			if saw.Check(c) != api.OK {
				return
			}
			_, more := best(t, c)
			if more < pay {
				t.Fatalf("%+v: Best pays %d, %+v %d", s, pay, c, more)
			}
			if more > pay {
				count[name]++
			}
		}
		for kind := range s.Stock {
			better("loaf", func(s *api.Saw) { s.Stock[kind]++ })
		}
		better("cut", func(s *api.Saw) { s.Kerf-- })
		for number := range s.Wants {
			better("pay", func(s *api.Saw) { s.Wants[number].Pay++ })
		}
	})
	if count["loaf"] < 500 || count["cut"] < 30 || count["pay"] < 1000 {
		t.Error(count)
	}
}

// P8.17: if some wants can be served, so can fewer, with no more cones.
func TestFewer(t *testing.T) {
	same, less := 0, 0
	samples(1500, 10, func(s api.Saw, _ *rand.Rand) {
		for _, list := range lists(s) {
			cones, can := servable(t, s, list)
			if !can {
				continue
			}
			for i := range list {
				fewer := slices.Delete(slices.Clone(list), i, i+1)
				n, can := servable(t, s, fewer)
				if !can || n > cones {
					t.Fatalf("%+v: %v with %d cones, %v with %d, %t", s, list, cones, fewer, n, can)
				}
				if n < cones {
					less++
				} else {
					same++
				}
			}
		}
	})
	if same < 3000 || less < 10000 {
		t.Error(same, less)
	}
}

// P8.20: if kinds have other numbers, Best pays the same, and as many cones are needed.
func TestRenumbered(t *testing.T) {
	other := 0
	samples(1500, 11, func(s api.Saw, dice *rand.Rand) {
		// The kind old[k] becomes the kind k.
		old := dice.Perm(len(s.Loaves))
		c := but(s, func(c *api.Saw) {
			for kind, was := range old {
				c.Loaves[kind], c.Stock[kind] = s.Loaves[was], s.Stock[was]
			}
			for number, w := range c.Wants {
				if w.Kind >= 0 {
					c.Wants[number].Kind = slices.Index(old, w.Kind)
				}
			}
		})
		was, before := best(t, s)
		is, now := best(t, c)
		if before != now || !slices.Equal(was, is) {
			t.Fatalf("%+v: Best = %v %d, renumbered %v: %v %d", s, was, before, old, is, now)
		}
		for _, list := range lists(s) {
			crush, cones, e := saw.Crush(s, list)
			theirs, n, f := saw.Crush(c, list)
			if e != f || cones != n {
				t.Fatalf("%+v: Crush(%v) has %d cones %d, renumbered %v: %d %d", s, list, cones, e, old, n, f)
			}
			if !slices.Equal(crush, theirs) {
				other++
			}
		}
		_, cones, e := saw.Fewest(s)
		_, n, f := saw.Fewest(c)
		k, g := saw.Kerf(s)
		l, h := saw.Kerf(c)
		if cones != n || e != f || k != l || g != h {
			t.Fatalf("%+v: Fewest has %d cones %d, Kerf is %d %d, renumbered %v: %d %d, %d %d", s, cones, e, k, g, old, n, f, l, h)
		}
		for kind := range old {
			n, e := saw.Need(c, kind)
			if want, due := saw.Need(s, old[kind]); n != want || e != due {
				t.Fatalf("%+v: Need(%d) = %d %d, renumbered %v: %d %d", s, old[kind], want, due, old, n, e)
			}
		}
	})
	if other < 1000 {
		t.Error(other)
	}
}

// T5: what all loaves weigh is what is left over, served, sold, and lost by cuts, from nothing to Kerf for each top. The loaves came out of one vessel, and were found as heavy as they are; a second vessel, which weighs as much, fills those into which they go.
func TestWeighed(t *testing.T) {
	looked, cut := 0, 0
	samples(6000, 12, func(s api.Saw, _ *rand.Rand) {
		vat := api.Works{Vessels: []api.Vessel{{From: -1, Room: api.MaxRoom}}}
		b := api.Batch{Works: vat}
		for kind, n := range s.Stock {
			for range n {
				b.Loaves = append(b.Loaves, api.Loaf{Stove: -1, Cart: -1, Found: weight(s.Loaves[kind]...)})
			}
		}
		total, e := loaf.Total(b)
		if e != api.OK {
			return // more loaves than a batch has, or heavier ones than the vessel can weigh
		}
		list, _ := best(t, s)
		crush, _, e := saw.Crush(s, list)
		left, over, f := saw.Left(s, list, crush)
		if e != api.OK || f != api.OK || total.Lo != total.Hi {
			t.Fatalf("%+v: Crush(%v): %d, Left: %d, Total %v", s, list, e, f, total)
		}
		uncut, served, sold, tops := 0, 0, 0, 0
		for kind, n := range left {
			uncut += n * weight(s.Loaves[kind]...)
		}
		for _, number := range list {
			switch w := s.Wants[number]; w.Sort {
			case api.Whole:
				served += weight(s.Loaves[w.Kind]...)
			case api.Top:
				tops++
				served += weight(s.Loaves[w.Kind]...) - weight(s.Loaves[w.Kind][:len(s.Loaves[w.Kind])-w.Amount]...)
			default:
				sold += w.Amount
			}
		}
		works := api.Works{Vessels: []api.Vessel{{From: -1, Room: api.MaxRoom, Loss: api.Span{Lo: 0, Hi: tops * s.Kerf}}}}
		works.Readings = []api.Reading{{Vessel: 0, Shown: total.Lo}}
		for i, pounds := range []int{uncut, served, sold, over} {
			works.Vessels = append(works.Vessels, api.Vessel{From: 0, Room: api.MaxRoom})
			works.Readings = append(works.Readings, api.Reading{Vessel: 1 + i, Shown: pounds})
		}
		lost, e := weigh.Lost(works)
		if want := accounts(t, s, list, left, over); e != api.OK || lost != (api.Span{Lo: want, Hi: want}) {
			t.Fatalf("%+v: %v and %v: %v is lost, %d, want %d", s, list, crush, lost, e, want)
		}
		looked++
		if lost.Hi > 0 {
			cut++
		}
	})
	if looked < 2000 || cut < 300 {
		t.Error(looked, cut)
	}
}

// T14: the loaves that a vessel's least weight is enough for can be crushed to the pound, and are no heavier than it is in any truth.
func TestCrushedVessel(t *testing.T) {
	dice := rand.New(rand.NewPCG(13, 8))
	looked, several := 0, 0
	for range 4000 {
		// A melt that fills two pans, one of which was weighed, as the melt was.
		w := api.Works{
			Vessels:  []api.Vessel{{From: -1, Room: 40, Loss: api.Span{Lo: 0, Hi: dice.IntN(4)}}, {From: 0, Room: dice.IntN(41)}, {From: 0, Room: dice.IntN(41)}},
			Readings: []api.Reading{{Vessel: 0, Shown: dice.IntN(41), Err: dice.IntN(4)}, {Vessel: 1, Shown: dice.IntN(30), Err: dice.IntN(10)}},
		}
		vessel := dice.IntN(3)
		weighs, e := weigh.Weight(w, vessel)
		if e != api.OK {
			continue // readings that contradict each other
		}
		s := api.Saw{Kerf: dice.IntN(api.MaxKerf + 1)}
		pounds := 0
		for range 1 + dice.IntN(api.MaxKinds) {
			l := randomLoaf(dice)
			n := min(api.MaxStock, (weighs.Lo-pounds)/weight(l...))
			s.Loaves, s.Stock = append(s.Loaves, l), append(s.Stock, n)
			pounds += n * weight(l...)
		}
		if pounds == 0 {
			continue
		}
		s.Wants = wants{crushed(-1, pounds, 1)}
		crush, cones, e := saw.Fewest(s)
		left, over, f := saw.Left(s, ints{0}, crush)
		if e != api.OK || f != api.OK || cones != weight(s.Stock...) || weight(left...) != 0 || over != 0 {
			t.Fatalf("%+v: Fewest = %v %d %d, Left %v %d %d", s, crush, cones, e, left, over, f)
		}
		if more := but(s, func(s *api.Saw) { s.Wants[0].Amount++ }); saw.Check(more) == api.OK && can(more, ints{0}) {
			t.Fatalf("%+v: more than all loaves weigh", more)
		}
		// No truth has a vessel that is lighter than the loaves.
		for lighter := range pounds {
			less := w
			less.Readings = append(slices.Clone(w.Readings), api.Reading{Vessel: vessel, Shown: lighter})
			if can, e := weigh.Can(less); e != api.OK || can {
				t.Fatalf("%+v: the vessel %d weighs %d, its loaves %d", w, vessel, lighter, pounds)
			}
		}
		looked++
		if cones > 1 {
			several++
		}
	}
	if looked < 800 || several < 500 {
		t.Error(looked, several)
	}
}

// All that the limits let be, against the reference.
func TestLimits(t *testing.T) {
	of := func(w ...api.Want) api.Saw {
		return api.Saw{Loaves: []ints{{9, 9, 9, 9}, {9, 9, 9, 8}, {1, 1, 1, 1}}, Stock: ints{4, 4, 4}, Kerf: 3, Wants: w}
	}
	for i, s := range []api.Saw{
		of(crushed(-1, 60, 30), crushed(-1, 60, 30), crushed(-1, 60, 30), crushed(-1, 60, 30), crushed(-1, 60, 30)),
		of(crushed(0, 60, 30), crushed(0, 60, 30), crushed(1, 60, 30), crushed(1, 60, 30), crushed(2, 16, 30)),
		of(crushed(0, 60, 30), crushed(1, 60, 30), crushed(2, 16, 30), crushed(-1, 60, 30), crushed(-1, 60, 29)),
		of(top(0, 3, 30), top(0, 1, 30), top(1, 2, 30), top(2, 3, 30), crushed(-1, 60, 30)),
		of(whole(0, 30), whole(0, 30), whole(0, 30), whole(0, 30), whole(0, 30)),
	} {
		list, pay := best(t, s)
		crush, cones, e := saw.Fewest(s)
		p, d := bestFor(s, all(s)), bestDeal(deals(s))
		if (e == api.OK) != p.some || cones != p.cones || !slices.Equal(crush, p.crush) || pay != d.pay || !slices.Equal(list, d.list) {
			t.Error(i, crush, cones, e, list, pay)
		}
		for kind := range s.Loaves {
			n, e := saw.Need(s, kind)
			if want, due := need(s, kind); n != want || e != due {
				t.Error(i, kind, n, e)
			}
		}
		l, e := saw.Refused(s)
		k, f := saw.Kerf(s)
		if want, due := kerf(s); e != api.OK || !slices.Equal(l, refused(s)) || k != want || f != due {
			t.Error(i, l, e, k, f)
		}
	}
}

// P1, R3, R5 and R7: whatever the arguments are.
func TestAnyArguments(t *testing.T) {
	dice := rand.New(rand.NewPCG(14, 8))
	odd := func() int {
		switch dice.IntN(12) {
		case 0:
			return math.MaxInt
		case 1:
			return math.MinInt
		case 2:
			return -1
		}
		return dice.IntN(5)
	}
	list := func(most int) (list ints) {
		for range dice.IntN(most + 1) {
			list = append(list, odd())
		}
		return list
	}
	want := func() api.Want { return api.Want{Sort: odd(), Kind: odd(), Amount: odd(), Pay: odd()} }
	right := 0
	for range 8000 {
		s := exampleS()
		if dice.IntN(3) == 0 {
			s.Loaves = nil
			for range dice.IntN(5) {
				s.Loaves = append(s.Loaves, list(5))
			}
		}
		if dice.IntN(3) == 0 {
			s.Stock, s.Kerf = list(4), odd()
		}
		if dice.IntN(3) == 0 {
			s.Wants = nil
			for range dice.IntN(7) {
				s.Wants = append(s.Wants, want())
			}
		}
		errs, clean := failures(answers(s, asked{odd(), odd(), odd(), list(3), list(3), want()}))
		e := saw.Check(s)
		for name, f := range errs {
			if !clean || e != api.OK && f != e {
				t.Fatalf("%+v: %s: %d, Check %d, clean %t", s, name, f, e, clean)
			}
		}
		if e == api.OK {
			right++
		}
	}
	if right < 1000 {
		t.Error(right)
	}
}

// R2, R4 and R6: no call changes an argument, nor memory behind it, and all calls of the same say the same, side by side too.
func TestNothingKept(t *testing.T) {
	samples(300, 15, func(s api.Saw, dice *rand.Rand) {
		// There is room behind the lists, in which something stands.
		behind := func(list ints) ints { return append(slices.Clone(list), 7)[:len(list)] }
		for kind := range s.Loaves {
			s.Loaves[kind] = behind(s.Loaves[kind])
		}
		s.Loaves = append(slices.Clone(s.Loaves), ints{7})[:len(s.Loaves)]
		s.Stock = behind(s.Stock)
		s.Wants = append(slices.Clone(s.Wants), whole(7, 7))[:len(s.Wants)]
		a := asked{dice.IntN(len(s.Loaves)), dice.IntN(12), dice.IntN(len(s.Wants) + 1), nil, nil, randomWant(dice, s)}
		for number := range s.Wants {
			if dice.IntN(2) == 0 {
				a.wants = append(a.wants, number)
			}
		}
		for range s.Loaves {
			a.crushed = append(a.crushed, dice.IntN(2))
		}
		a.wants, a.crushed = behind(a.wants), behind(a.crushed)
		whole := func() (api.Saw, ints) {
			c := s
			c.Loaves, c.Stock, c.Wants = s.Loaves[:len(s.Loaves)+1], s.Stock[:len(s.Stock)+1], s.Wants[:len(s.Wants)+1]
			c = copied(c)
			for kind, l := range s.Loaves {
				c.Loaves[kind] = slices.Clone(l[:len(l)+1])
			}
			return c, slices.Concat(a.wants[:len(a.wants)+1], a.crushed[:len(a.crushed)+1])
		}
		before, lists := whole()
		want := answers(s, a)
		var calls sync.WaitGroup
		for range 4 {
			calls.Go(func() {
				if got := answers(s, a); !slices.EqualFunc(got, want, sameAnswer) {
					t.Errorf("%+v: %v, then %v", s, want, got)
				}
			})
		}
		calls.Wait()
		if after, now := whole(); !reflect.DeepEqual(before, after) || !slices.Equal(lists, now) {
			t.Fatalf("%+v became %+v, %v became %v", before, after, lists, now)
		}
	})
	// Nil and empty lists mean the same.
	none := api.Saw{Loaves: []ints{{2, 1}}, Stock: ints{1}}
	empty := api.Saw{Loaves: []ints{{2, 1}}, Stock: ints{1}, Wants: wants{}}
	if got, want := answers(empty, asked{wants: ints{}, crushed: ints{1}}), answers(none, asked{crushed: ints{1}}); !slices.EqualFunc(got, want, sameAnswer) {
		t.Error(got, want)
	}
	if saw.Check(api.Saw{Loaves: []ints{}}) != api.ErrShortage || saw.Check(api.Saw{Loaves: []ints{{}}}) != api.ErrShortage {
		t.Error("a saw without loaves, or a loaf without slices")
	}
	if saw.Right(none, nil, ints{}) != api.ErrShortage || saw.Right(none, ints{}, nil) != api.ErrShortage {
		t.Error("no number of loaves that are crushed")
	}
}
