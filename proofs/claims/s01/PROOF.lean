import PyProof.Rows.All
import Wide.All
import OpenK.AllK
import Wide.FinOn
import Open.SpecLaws
import KE.OsHead
import KE.OsGo
import HandS.ForMost
import HandS.ForSpec
import HandS.Wide
import HandS.Evl
import HandS.Walk
import HandS.Deep
import HandS.Conv
import PyWideLaws
import PySem.Challenge.RW_changeditself_s01_answers
set_option Elab.async false
set_option maxRecDepth 100000
set_option maxHeartbeats 8000000
set_option exponentiation.threshold 20000
/-! Words for all the defs: where a def stands, what a pure def gives back, how things lie in the heap. -/
namespace CI
open PySem PySem.Spec PyProof.Rows L2
open Evl (Ex fresh_back)
def top (i : Nat) : Stmt := PySem.Challenge.pw_changeditself_s01_answers.main.body.getD i (.Pass ⟨0, 0, 0, 0⟩)
/-- a def of the text, as a caller wants it -/
structure Df (K : PySem.W.Frag) (mg : Str → Option Value) (x : Str) (st : Stmt) (ps : List Str) (f : Addr) (fd : FuncData) : Prop where
  F : Fun K x x st f fd
  g : mg x = some (.ref f)
  b : Binds K fd ps []
/-- a class of the text, and its __init__ -/
structure Cl (K : PySem.W.Frag) (mg : Str → Option Value) (x q : Str) (st : Stmt) (ps attrs : List Str) (C f : Addr) (fd : FuncData) : Prop where
  F : Fun K "__init__" q st f fd
  g : mg x = some (.ref C)
  b : Binds K fd ps []
  M : Mk K C f
  cl : Cls K C
  na : ∀ a ∈ attrs, NoAttr K C a
/-- what a def gives back that changes nothing that stood: a value of which R is true -/
def RetR (R : V → Hp → Prop) (H : Hp) (Q : VK) : Prop := ∀ v H2, Ex H H2 → R v H2 → Q v H2
theorem RetR.go {R : V → Hp → Prop} {H H' : Hp} {Q : VK} (k : RetR R H Q) (e : Ex H H') {v : V} (r : R v H') : Q v H' := k v H' e r
theorem RetR.mono {R : V → Hp → Prop} {H H' : Hp} {Q : VK} (k : RetR R H Q) (e : Ex H H') : RetR R H' Q := fun v H2 e2 r => k v H2 (e.trans e2) r
/-- a fraction; numbers of a list; .. -/
def IsFr (x : Int × Int) (v : V) (H : Hp) : Prop := ∃ p, v = .ref p ∧ H p = some (.tup [.int x.1, .int x.2])
theorem IsFr.mono {x : Int × Int} {v : V} {H H' : Hp} (e : Ex H H') (h : IsFr x v H) : IsFr x v H' := by
  obtain ⟨p, rfl, hp⟩ := h
  exact ⟨p, rfl, e _ _ hp⟩
/-- a constant of a file's top -/
theorem pe_const {X : Cx} {x : Str} {i : Int} {pos : Pos} (hg : Gl X x) (hm : ∃ t, X.mg x = some (.int i t)) (hd : (x == ("__debug__" : Str)) = false := by decide) : PE X (.Name x pos) (tC (.int i)) := by
  obtain ⟨t, h⟩ := hm
  exact pe_glob hg h ⟨t, rfl⟩ hd
theorem if_t {c : Bool} {A B : Prop} (hc : c = true) (h : A) : if c = true then A else B := by
  rw [if_pos hc]
  exact h
theorem if_f {c : Bool} {A B : Prop} (hc : c = false) (h : B) : if c = true then A else B := by
  rw [hc, if_neg Bool.false_ne_true]
  exact h
theorem if_c {c : Bool} {A B : Prop} (h1 : c = true → A) (h2 : c = false → B) : if c = true then A else B := by
  cases c with
  | true => exact if_t rfl (h1 rfl)
  | false => exact if_f rfl (h2 rfl)
theorem sqT {K : PySem.W.Frag} {H : Hp} {a : Addr} {xs : List V} (h : H a = some (.tup xs)) : SqT K H a xs := SqT.of h
theorem sqL {K : PySem.W.Frag} {H : Hp} {a : Addr} {xs : List V} (h : H a = some (.lst xs)) : SqL K H a xs := SqL.of h
end CI
/-! The program's text by places. -/
namespace CI
open PySem PySem.Spec PyProof.Rows L2
abbrev s_Act___init__ : Stmt := inClass (top 5) 0
abbrev P_Act___init__ : List Str := ["self", "pays", "weights", "turn", "locks"]
abbrev N_Act___init__ : List Str := ["self", "pays", "weights", "turn", "locks"]
theorem sc_Act___init__ : FnScope N_Act___init__ P_Act___init__ (defScope s_Act___init__) := ⟨rfl, rfl, rfl, by decide +kernel, rfl, by decide +kernel, by decide +kernel⟩
abbrev s_Entry___init__ : Stmt := inClass (top 6) 0
abbrev P_Entry___init__ : List Str := ["self", "number", "steps", "before", "behind", "pays"]
abbrev N_Entry___init__ : List Str := ["self", "number", "steps", "before", "behind", "pays"]
theorem sc_Entry___init__ : FnScope N_Entry___init__ P_Entry___init__ (defScope s_Entry___init__) := ⟨rfl, rfl, rfl, by decide +kernel, rfl, by decide +kernel, by decide +kernel⟩
abbrev s_House___init__ : Stmt := inClass (top 7) 0
abbrev P_House___init__ : List Str := ["self"]
abbrev N_House___init__ : List Str := ["self"]
theorem sc_House___init__ : FnScope N_House___init__ P_House___init__ (defScope s_House___init__) := ⟨rfl, rfl, rfl, by decide +kernel, rfl, by decide +kernel, by decide +kernel⟩
abbrev s_furnish : Stmt := top 8
abbrev P_furnish : List Str := ["house", "places", "selves"]
abbrev N_furnish : List Str := ["house", "places", "selves", "place"]
theorem sc_furnish : FnScope N_furnish P_furnish (defScope s_furnish) := ⟨rfl, rfl, rfl, by decide +kernel, rfl, by decide +kernel, by decide +kernel⟩
abbrev s_is_begun : Stmt := top 9
abbrev P_is_begun : List Str := ["house"]
abbrev N_is_begun : List Str := ["house"]
theorem sc_is_begun : FnScope N_is_begun P_is_begun (defScope s_is_begun) := ⟨rfl, rfl, rfl, by decide +kernel, rfl, by decide +kernel, by decide +kernel⟩
abbrev s_has_place : Stmt := top 10
abbrev P_has_place : List Str := ["house", "place"]
abbrev N_has_place : List Str := ["house", "place"]
theorem sc_has_place : FnScope N_has_place P_has_place (defScope s_has_place) := ⟨rfl, rfl, rfl, by decide +kernel, rfl, by decide +kernel, by decide +kernel⟩
abbrev s_has_self : Stmt := top 11
abbrev P_has_self : List Str := ["house", "who"]
abbrev N_has_self : List Str := ["house", "who"]
theorem sc_has_self : FnScope N_has_self P_has_self (defScope s_has_self) := ⟨rfl, rfl, rfl, by decide +kernel, rfl, by decide +kernel, by decide +kernel⟩
abbrev s_has_act : Stmt := top 12
abbrev P_has_act : List Str := ["house", "place", "number"]
abbrev N_has_act : List Str := ["house", "place", "number"]
theorem sc_has_act : FnScope N_has_act P_has_act (defScope s_has_act) := ⟨rfl, rfl, rfl, by decide +kernel, rfl, by decide +kernel, by decide +kernel⟩
abbrev s_may_go : Stmt := top 13
abbrev P_may_go : List Str := ["steps"]
abbrev N_may_go : List Str := ["steps"]
theorem sc_may_go : FnScope N_may_go P_may_go (defScope s_may_go) := ⟨rfl, rfl, rfl, by decide +kernel, rfl, by decide +kernel, by decide +kernel⟩
abbrev s_stand_behind : Stmt := top 14
abbrev P_stand_behind : List Str := ["act", "stand", "place"]
abbrev N_stand_behind : List Str := ["act", "stand", "place", "who"]
theorem sc_stand_behind : FnScope N_stand_behind P_stand_behind (defScope s_stand_behind) := ⟨rfl, rfl, rfl, by decide +kernel, rfl, by decide +kernel, by decide +kernel⟩
abbrev s_common_divisor : Stmt := top 16
abbrev P_common_divisor : List Str := ["first", "second"]
abbrev N_common_divisor : List Str := ["first", "second", "rest"]
theorem sc_common_divisor : FnScope N_common_divisor P_common_divisor (defScope s_common_divisor) := ⟨rfl, rfl, rfl, by decide +kernel, rfl, by decide +kernel, by decide +kernel⟩
abbrev s_lowest : Stmt := top 17
abbrev P_lowest : List Str := ["upper", "lower"]
abbrev N_lowest : List Str := ["upper", "lower", "shared"]
theorem sc_lowest : FnScope N_lowest P_lowest (defScope s_lowest) := ⟨rfl, rfl, rfl, by decide +kernel, rfl, by decide +kernel, by decide +kernel⟩
abbrev s_is_less : Stmt := top 18
abbrev P_is_less : List Str := ["first", "second"]
abbrev N_is_less : List Str := ["first", "second"]
theorem sc_is_less : FnScope N_is_less P_is_less (defScope s_is_less) := ⟨rfl, rfl, rfl, by decide +kernel, rfl, by decide +kernel, by decide +kernel⟩
abbrev s_difference : Stmt := top 19
abbrev P_difference : List Str := ["first", "second"]
abbrev N_difference : List Str := ["first", "second"]
theorem sc_difference : FnScope N_difference P_difference (defScope s_difference) := ⟨rfl, rfl, rfl, by decide +kernel, rfl, by decide +kernel, by decide +kernel⟩
abbrev s_all_stands : Stmt := top 21
abbrev P_all_stands : List Str := ["house"]
abbrev N_all_stands : List Str := ["house", "stands", "place", "who"]
theorem sc_all_stands : FnScope N_all_stands P_all_stands (defScope s_all_stands) := ⟨rfl, rfl, rfl, by decide +kernel, rfl, by decide +kernel, by decide +kernel⟩
abbrev s_mean_behind : Stmt := top 22
abbrev P_mean_behind : List Str := ["act", "stand", "table", "who"]
abbrev N_mean_behind : List Str := ["act", "stand", "table", "who", "upper", "lower", "place", "weight", "there"]
theorem sc_mean_behind : FnScope N_mean_behind P_mean_behind (defScope s_mean_behind) := ⟨rfl, rfl, rfl, by decide +kernel, rfl, by decide +kernel, by decide +kernel⟩
abbrev s_brings : Stmt := top 23
abbrev P_brings : List Str := ["act", "stand", "later", "lights"]
abbrev N_brings : List Str := ["act", "stand", "later", "lights", "mean"]
theorem sc_brings : FnScope N_brings P_brings (defScope s_brings) := ⟨rfl, rfl, rfl, by decide +kernel, rfl, by decide +kernel, by decide +kernel⟩
abbrev s_best_act : Stmt := top 24
abbrev P_best_act : List Str := ["acts", "stand", "later"]
abbrev N_best_act : List Str := ["acts", "stand", "later", "best", "most", "number", "brought"]
theorem sc_best_act : FnScope N_best_act P_best_act (defScope s_best_act) := ⟨rfl, rfl, rfl, by decide +kernel, rfl, by decide +kernel, by decide +kernel⟩
abbrev s_act_done : Stmt := top 25
abbrev P_act_done : List Str := ["house", "stand", "later"]
abbrev N_act_done : List Str := ["house", "stand", "later", "acts"]
theorem sc_act_done : FnScope N_act_done P_act_done (defScope s_act_done) := ⟨rfl, rfl, rfl, by decide +kernel, rfl, by decide +kernel, by decide +kernel⟩
abbrev s_nothing_brought : Stmt := top 26
abbrev P_nothing_brought : List Str := ["house"]
abbrev N_nothing_brought : List Str := ["house", "who"]
theorem sc_nothing_brought : FnScope N_nothing_brought P_nothing_brought (defScope s_nothing_brought) := ⟨rfl, rfl, rfl, by decide +kernel, rfl, by decide +kernel, by decide +kernel⟩
abbrev s_worths_there : Stmt := top 27
abbrev P_worths_there : List Str := ["house", "stand", "later"]
abbrev N_worths_there : List Str := ["house", "stand", "later", "act", "lights"]
theorem sc_worths_there : FnScope N_worths_there P_worths_there (defScope s_worths_there) := ⟨rfl, rfl, rfl, by decide +kernel, rfl, by decide +kernel, by decide +kernel⟩
abbrev s_one_step_more : Stmt := top 28
abbrev P_one_step_more : List Str := ["house", "later"]
abbrev N_one_step_more : List Str := ["house", "later", "table", "stand"]
theorem sc_one_step_more : FnScope N_one_step_more P_one_step_more (defScope s_one_step_more) := ⟨rfl, rfl, rfl, by decide +kernel, rfl, by decide +kernel, by decide +kernel⟩
abbrev s_worth_tables : Stmt := top 29
abbrev P_worth_tables : List Str := ["house", "steps"]
abbrev N_worth_tables : List Str := ["house", "steps", "ended", "stand", "tables", "step"]
theorem sc_worth_tables : FnScope N_worth_tables P_worth_tables (defScope s_worth_tables) := ⟨rfl, rfl, rfl, by decide +kernel, rfl, by decide +kernel, by decide +kernel⟩
abbrev s_worth_table : Stmt := top 30
abbrev P_worth_table : List Str := ["house", "steps"]
abbrev N_worth_table : List Str := ["house", "steps"]
theorem sc_worth_table : FnScope N_worth_table P_worth_table (defScope s_worth_table) := ⟨rfl, rfl, rfl, by decide +kernel, rfl, by decide +kernel, by decide +kernel⟩
abbrev s_likely_one_step_more : Stmt := top 32
abbrev P_likely_one_step_more : List Str := ["house", "later", "likely"]
abbrev N_likely_one_step_more : List Str := ["house", "later", "likely", "table", "stand", "act", "who"]
theorem sc_likely_one_step_more : FnScope N_likely_one_step_more P_likely_one_step_more (defScope s_likely_one_step_more) := ⟨rfl, rfl, rfl, by decide +kernel, rfl, by decide +kernel, by decide +kernel⟩
abbrev s_likely_table : Stmt := top 33
abbrev P_likely_table : List Str := ["house", "steps"]
abbrev N_likely_table : List Str := ["house", "steps", "table", "stand", "worths", "step", "who"]
theorem sc_likely_table : FnScope N_likely_table P_likely_table (defScope s_likely_table) := ⟨rfl, rfl, rfl, by decide +kernel, rfl, by decide +kernel, by decide +kernel⟩
abbrev s_turns_there : Stmt := top 34
abbrev P_turns_there : List Str := ["house", "place", "who", "later"]
abbrev N_turns_there : List Str := ["house", "place", "who", "later", "stand", "act"]
theorem sc_turns_there : FnScope N_turns_there P_turns_there (defScope s_turns_there) := ⟨rfl, rfl, rfl, by decide +kernel, rfl, by decide +kernel, by decide +kernel⟩
abbrev s_never_turns : Stmt := top 35
abbrev P_never_turns : List Str := ["house", "who", "steps", "worths"]
abbrev N_never_turns : List Str := ["house", "who", "steps", "worths", "step", "place"]
theorem sc_never_turns : FnScope N_never_turns P_never_turns (defScope s_never_turns) := ⟨rfl, rfl, rfl, by decide +kernel, rfl, by decide +kernel, by decide +kernel⟩
abbrev s_stands_behind : Stmt := top 36
abbrev P_stands_behind : List Str := ["house", "stands", "later"]
abbrev N_stands_behind : List Str := ["house", "stands", "later", "found", "stand", "act", "place", "weight"]
theorem sc_stands_behind : FnScope N_stands_behind P_stands_behind (defScope s_stands_behind) := ⟨rfl, rfl, rfl, by decide +kernel, rfl, by decide +kernel, by decide +kernel⟩
abbrev s_surely_stays : Stmt := top 37
abbrev P_surely_stays : List Str := ["house", "who", "place", "steps", "worths"]
abbrev N_surely_stays : List Str := ["house", "who", "place", "steps", "worths", "stands", "done", "stand"]
theorem sc_surely_stays : FnScope N_surely_stays P_surely_stays (defScope s_surely_stays) := ⟨rfl, rfl, rfl, by decide +kernel, rfl, by decide +kernel, by decide +kernel⟩
abbrev s_is_kept : Stmt := top 42
abbrev P_is_kept : List Str := ["house", "promise", "worths"]
abbrev N_is_kept : List Str := ["house", "promise", "worths", "kind", "lights", "who", "place", "steps", "least"]
theorem sc_is_kept : FnScope N_is_kept P_is_kept (defScope s_is_kept) := ⟨rfl, rfl, rfl, by decide +kernel, rfl, by decide +kernel, by decide +kernel⟩
abbrev s_would_be_kept : Stmt := top 43
abbrev P_would_be_kept : List Str := ["house", "promise"]
abbrev N_would_be_kept : List Str := ["house", "promise"]
theorem sc_would_be_kept : FnScope N_would_be_kept P_would_be_kept (defScope s_would_be_kept) := ⟨rfl, rfl, rfl, by decide +kernel, rfl, by decide +kernel, by decide +kernel⟩
abbrev s_all_are_kept : Stmt := top 44
abbrev P_all_are_kept : List Str := ["house"]
abbrev N_all_are_kept : List Str := ["house", "worths", "promise"]
theorem sc_all_are_kept : FnScope N_all_are_kept P_all_are_kept (defScope s_all_are_kept) := ⟨rfl, rfl, rfl, by decide +kernel, rfl, by decide +kernel, by decide +kernel⟩
abbrev s_is_twin : Stmt := top 53
abbrev P_is_twin : List Str := ["act", "other"]
abbrev N_is_twin : List Str := ["act", "other", "plain"]
theorem sc_is_twin : FnScope N_is_twin P_is_twin (defScope s_is_twin) := ⟨rfl, rfl, rfl, by decide +kernel, rfl, by decide +kernel, by decide +kernel⟩
abbrev s_is_lonely : Stmt := top 54
abbrev P_is_lonely : List Str := ["act", "acts"]
abbrev N_is_lonely : List Str := ["act", "acts", "other"]
theorem sc_is_lonely : FnScope N_is_lonely P_is_lonely (defScope s_is_lonely) := ⟨rfl, rfl, rfl, by decide +kernel, rfl, by decide +kernel, by decide +kernel⟩
abbrev s_twin_of : Stmt := top 55
abbrev P_twin_of : List Str := ["act"]
abbrev N_twin_of : List Str := ["act"]
theorem sc_twin_of : FnScope N_twin_of P_twin_of (defScope s_twin_of) := ⟨rfl, rfl, rfl, by decide +kernel, rfl, by decide +kernel, by decide +kernel⟩
abbrev s_lonely_acts : Stmt := top 56
abbrev P_lonely_acts : List Str := ["house"]
abbrev N_lonely_acts : List Str := ["house", "found", "place", "acts", "number", "act"]
theorem sc_lonely_acts : FnScope N_lonely_acts P_lonely_acts (defScope s_lonely_acts) := ⟨rfl, rfl, rfl, by decide +kernel, rfl, by decide +kernel, by decide +kernel⟩
abbrev s_answer_change : Stmt := top 64
abbrev P_answer_change : List Str := ["house", "number", "given"]
abbrev N_answer_change : List Str := ["house", "number", "given"]
theorem sc_answer_change : FnScope N_answer_change P_answer_change (defScope s_answer_change) := ⟨rfl, rfl, rfl, by decide +kernel, rfl, by decide +kernel, by decide +kernel⟩
abbrev s_begin : Stmt := top 65
abbrev P_begin : List Str := ["house", "places", "selves"]
abbrev N_begin : List Str := ["house", "places", "selves"]
theorem sc_begin : FnScope N_begin P_begin (defScope s_begin) := ⟨rfl, rfl, rfl, by decide +kernel, rfl, by decide +kernel, by decide +kernel⟩
abbrev s_all_between : Stmt := top 66
abbrev P_all_between : List Str := ["row", "least", "most"]
abbrev N_all_between : List Str := ["row", "least", "most", "number"]
theorem sc_all_between : FnScope N_all_between P_all_between (defScope s_all_between) := ⟨rfl, rfl, rfl, by decide +kernel, rfl, by decide +kernel, by decide +kernel⟩
abbrev s_is_act_row : Stmt := top 67
abbrev P_is_act_row : List Str := ["house", "row"]
abbrev N_is_act_row : List Str := ["house", "row", "pays", "weights"]
theorem sc_is_act_row : FnScope N_is_act_row P_is_act_row (defScope s_is_act_row) := ⟨rfl, rfl, rfl, by decide +kernel, rfl, by decide +kernel, by decide +kernel⟩
abbrev s_settle : Stmt := top 68
abbrev P_settle : List Str := ["house", "place", "acts", "answer"]
abbrev N_settle : List Str := ["house", "place", "acts", "answer", "before"]
theorem sc_settle : FnScope N_settle P_settle (defScope s_settle) := ⟨rfl, rfl, rfl, by decide +kernel, rfl, by decide +kernel, by decide +kernel⟩
abbrev s_put_act : Stmt := top 69
abbrev P_put_act : List Str := ["house", "place", "row"]
abbrev N_put_act : List Str := ["house", "place", "row", "acts"]
theorem sc_put_act : FnScope N_put_act P_put_act (defScope s_put_act) := ⟨rfl, rfl, rfl, by decide +kernel, rfl, by decide +kernel, by decide +kernel⟩
abbrev s_take_act : Stmt := top 70
abbrev P_take_act : List Str := ["house", "place", "number"]
abbrev N_take_act : List Str := ["house", "place", "number", "acts"]
theorem sc_take_act : FnScope N_take_act P_take_act (defScope s_take_act) := ⟨rfl, rfl, rfl, by decide +kernel, rfl, by decide +kernel, by decide +kernel⟩
abbrev s_set_turn : Stmt := top 71
abbrev P_set_turn : List Str := ["house", "place", "number", "turn"]
abbrev N_set_turn : List Str := ["house", "place", "number", "turn", "acts", "old"]
theorem sc_set_turn : FnScope N_set_turn P_set_turn (defScope s_set_turn) := ⟨rfl, rfl, rfl, by decide +kernel, rfl, by decide +kernel, by decide +kernel⟩
abbrev s_set_lock : Stmt := top 72
abbrev P_set_lock : List Str := ["house", "place", "number", "locks"]
abbrev N_set_lock : List Str := ["house", "place", "number", "locks", "acts", "old"]
theorem sc_set_lock : FnScope N_set_lock P_set_lock (defScope s_set_lock) := ⟨rfl, rfl, rfl, by decide +kernel, rfl, by decide +kernel, by decide +kernel⟩
abbrev s_add_twins : Stmt := top 73
abbrev P_add_twins : List Str := ["house", "place"]
abbrev N_add_twins : List Str := ["house", "place", "there", "acts", "act"]
theorem sc_add_twins : FnScope N_add_twins P_add_twins (defScope s_add_twins) := ⟨rfl, rfl, rfl, by decide +kernel, rfl, by decide +kernel, by decide +kernel⟩
abbrev s_answer_going : Stmt := top 79
abbrev P_answer_going : List Str := ["house", "number", "given"]
abbrev N_answer_going : List Str := ["house", "number", "given"]
theorem sc_answer_going : FnScope N_answer_going P_answer_going (defScope s_answer_going) := ⟨rfl, rfl, rfl, by decide +kernel, rfl, by decide +kernel, by decide +kernel⟩
abbrev s_place_by_luck : Stmt := top 80
abbrev P_place_by_luck : List Str := ["weights", "luck"]
abbrev N_place_by_luck : List Str := ["weights", "luck", "total", "place", "reached"]
theorem sc_place_by_luck : FnScope N_place_by_luck P_place_by_luck (defScope s_place_by_luck) := ⟨rfl, rfl, rfl, by decide +kernel, rfl, by decide +kernel, by decide +kernel⟩
abbrev s_has_ended : Stmt := top 81
abbrev P_has_ended : List Str := ["house"]
abbrev N_has_ended : List Str := ["house"]
theorem sc_has_ended : FnScope N_has_ended P_has_ended (defScope s_has_ended) := ⟨rfl, rfl, rfl, by decide +kernel, rfl, by decide +kernel, by decide +kernel⟩
abbrev s_next_entry : Stmt := top 82
abbrev P_next_entry : List Str := ["house", "steps", "luck", "later"]
abbrev N_next_entry : List Str := ["house", "steps", "luck", "later", "before", "acts", "number", "act", "behind"]
theorem sc_next_entry : FnScope N_next_entry P_next_entry (defScope s_next_entry) := ⟨rfl, rfl, rfl, by decide +kernel, rfl, by decide +kernel, by decide +kernel⟩
abbrev s_do_entry : Stmt := top 83
abbrev P_do_entry : List Str := ["house", "entry"]
abbrev N_do_entry : List Str := ["house", "entry"]
theorem sc_do_entry : FnScope N_do_entry P_do_entry (defScope s_do_entry) := ⟨rfl, rfl, rfl, by decide +kernel, rfl, by decide +kernel, by decide +kernel⟩
abbrev s_tell_ahead : Stmt := top 84
abbrev P_tell_ahead : List Str := ["house", "steps", "luck"]
abbrev N_tell_ahead : List Str := ["house", "steps", "luck", "entry"]
theorem sc_tell_ahead : FnScope N_tell_ahead P_tell_ahead (defScope s_tell_ahead) := ⟨rfl, rfl, rfl, by decide +kernel, rfl, by decide +kernel, by decide +kernel⟩
abbrev s_go : Stmt := top 85
abbrev P_go : List Str := ["house", "steps", "luck"]
abbrev N_go : List Str := ["house", "steps", "luck", "entry"]
theorem sc_go : FnScope N_go P_go (defScope s_go) := ⟨rfl, rfl, rfl, by decide +kernel, rfl, by decide +kernel, by decide +kernel⟩
abbrev s_is_luck_row : Stmt := top 86
abbrev P_is_luck_row : List Str := ["row", "steps"]
abbrev N_is_luck_row : List Str := ["row", "steps", "luck"]
theorem sc_is_luck_row : FnScope N_is_luck_row P_is_luck_row (defScope s_is_luck_row) := ⟨rfl, rfl, rfl, by decide +kernel, rfl, by decide +kernel, by decide +kernel⟩
abbrev s_run : Stmt := top 87
abbrev P_run : List Str := ["house", "steps", "row"]
abbrev N_run : List Str := ["house", "steps", "row", "worths", "done", "left"]
theorem sc_run : FnScope N_run P_run (defScope s_run) := ⟨rfl, rfl, rfl, by decide +kernel, rfl, by decide +kernel, by decide +kernel⟩
abbrev s_answer_promising : Stmt := top 95
abbrev P_answer_promising : List Str := ["house", "number", "given"]
abbrev N_answer_promising : List Str := ["house", "number", "given"]
theorem sc_answer_promising : FnScope N_answer_promising P_answer_promising (defScope s_answer_promising) := ⟨rfl, rfl, rfl, by decide +kernel, rfl, by decide +kernel, by decide +kernel⟩
abbrev s_put_promise : Stmt := top 96
abbrev P_put_promise : List Str := ["house", "promise"]
abbrev N_put_promise : List Str := ["house", "promise"]
theorem sc_put_promise : FnScope N_put_promise P_put_promise (defScope s_put_promise) := ⟨rfl, rfl, rfl, by decide +kernel, rfl, by decide +kernel, by decide +kernel⟩
abbrev s_promise_never : Stmt := top 97
abbrev P_promise_never : List Str := ["house", "who", "steps"]
abbrev N_promise_never : List Str := ["house", "who", "steps"]
theorem sc_promise_never : FnScope N_promise_never P_promise_never (defScope s_promise_never) := ⟨rfl, rfl, rfl, by decide +kernel, rfl, by decide +kernel, by decide +kernel⟩
abbrev s_promise_stay : Stmt := top 98
abbrev P_promise_stay : List Str := ["house", "who", "place", "steps"]
abbrev N_promise_stay : List Str := ["house", "who", "place", "steps"]
theorem sc_promise_stay : FnScope N_promise_stay P_promise_stay (defScope s_promise_stay) := ⟨rfl, rfl, rfl, by decide +kernel, rfl, by decide +kernel, by decide +kernel⟩
abbrev s_is_worth_row : Stmt := top 99
abbrev P_is_worth_row : List Str := ["row"]
abbrev N_is_worth_row : List Str := ["row"]
theorem sc_is_worth_row : FnScope N_is_worth_row P_is_worth_row (defScope s_is_worth_row) := ⟨rfl, rfl, rfl, by decide +kernel, rfl, by decide +kernel, by decide +kernel⟩
abbrev s_promise_worth : Stmt := top 100
abbrev P_promise_worth : List Str := ["house", "lights", "who", "place", "steps", "row"]
abbrev N_promise_worth : List Str := ["house", "lights", "who", "place", "steps", "row"]
theorem sc_promise_worth : FnScope N_promise_worth P_promise_worth (defScope s_promise_worth) := ⟨rfl, rfl, rfl, by decide +kernel, rfl, by decide +kernel, by decide +kernel⟩
abbrev s_has_promise : Stmt := top 101
abbrev P_has_promise : List Str := ["house", "number"]
abbrev N_has_promise : List Str := ["house", "number"]
theorem sc_has_promise : FnScope N_has_promise P_has_promise (defScope s_has_promise) := ⟨rfl, rfl, rfl, by decide +kernel, rfl, by decide +kernel, by decide +kernel⟩
abbrev s_tell_promise : Stmt := top 102
abbrev P_tell_promise : List Str := ["house", "number"]
abbrev N_tell_promise : List Str := ["house", "number"]
theorem sc_tell_promise : FnScope N_tell_promise P_tell_promise (defScope s_tell_promise) := ⟨rfl, rfl, rfl, by decide +kernel, rfl, by decide +kernel, by decide +kernel⟩
abbrev s_take_promise : Stmt := top 103
abbrev P_take_promise : List Str := ["house", "number"]
abbrev N_take_promise : List Str := ["house", "number"]
theorem sc_take_promise : FnScope N_take_promise P_take_promise (defScope s_take_promise) := ⟨rfl, rfl, rfl, by decide +kernel, rfl, by decide +kernel, by decide +kernel⟩
abbrev s_tell_holds : Stmt := top 104
abbrev P_tell_holds : List Str := ["house", "kind", "who", "place", "steps"]
abbrev N_tell_holds : List Str := ["house", "kind", "who", "place", "steps"]
theorem sc_tell_holds : FnScope N_tell_holds P_tell_holds (defScope s_tell_holds) := ⟨rfl, rfl, rfl, by decide +kernel, rfl, by decide +kernel, by decide +kernel⟩
abbrev s_tell_count : Stmt := top 105
abbrev P_tell_count : List Str := ["house"]
abbrev N_tell_count : List Str := ["house"]
theorem sc_tell_count : FnScope N_tell_count P_tell_count (defScope s_tell_count) := ⟨rfl, rfl, rfl, by decide +kernel, rfl, by decide +kernel, by decide +kernel⟩
abbrev s_answer_question : Stmt := top 113
abbrev P_answer_question : List Str := ["house", "number", "given"]
abbrev N_answer_question : List Str := ["house", "number", "given"]
theorem sc_answer_question : FnScope N_answer_question P_answer_question (defScope s_answer_question) := ⟨rfl, rfl, rfl, by decide +kernel, rfl, by decide +kernel, by decide +kernel⟩
abbrev s_put_helper : Stmt := top 114
abbrev P_put_helper : List Str := ["house", "place", "who", "locked"]
abbrev N_put_helper : List Str := ["house", "place", "who", "locked", "answer"]
theorem sc_put_helper : FnScope N_put_helper P_put_helper (defScope s_put_helper) := ⟨rfl, rfl, rfl, by decide +kernel, rfl, by decide +kernel, by decide +kernel⟩
abbrev s_tell_stand : Stmt := top 115
abbrev P_tell_stand : List Str := ["house"]
abbrev N_tell_stand : List Str := ["house"]
theorem sc_tell_stand : FnScope N_tell_stand P_tell_stand (defScope s_tell_stand) := ⟨rfl, rfl, rfl, by decide +kernel, rfl, by decide +kernel, by decide +kernel⟩
abbrev s_tell_act : Stmt := top 116
abbrev P_tell_act : List Str := ["house", "place", "who", "locked", "steps"]
abbrev N_tell_act : List Str := ["house", "place", "who", "locked", "steps", "acts"]
theorem sc_tell_act : FnScope N_tell_act P_tell_act (defScope s_tell_act) := ⟨rfl, rfl, rfl, by decide +kernel, rfl, by decide +kernel, by decide +kernel⟩
abbrev s_tell_lights : Stmt := top 117
abbrev P_tell_lights : List Str := ["house", "place", "who", "locked", "steps"]
abbrev N_tell_lights : List Str := ["house", "place", "who", "locked", "steps", "answer", "worth"]
theorem sc_tell_lights : FnScope N_tell_lights P_tell_lights (defScope s_tell_lights) := ⟨rfl, rfl, rfl, by decide +kernel, rfl, by decide +kernel, by decide +kernel⟩
abbrev s_tell_cost : Stmt := top 118
abbrev P_tell_cost : List Str := ["house", "who", "other", "place", "locked", "steps"]
abbrev N_tell_cost : List Str := ["house", "who", "other", "place", "locked", "steps", "table", "as_itself", "as_other"]
theorem sc_tell_cost : FnScope N_tell_cost P_tell_cost (defScope s_tell_cost) := ⟨rfl, rfl, rfl, by decide +kernel, rfl, by decide +kernel, by decide +kernel⟩
abbrev s_tell_lonely : Stmt := top 119
abbrev P_tell_lonely : List Str := ["house"]
abbrev N_tell_lonely : List Str := ["house", "found"]
theorem sc_tell_lonely : FnScope N_tell_lonely P_tell_lonely (defScope s_tell_lonely) := ⟨rfl, rfl, rfl, by decide +kernel, rfl, by decide +kernel, by decide +kernel⟩
abbrev s_answer_telling : Stmt := top 125
abbrev P_answer_telling : List Str := ["house", "number", "given"]
abbrev N_answer_telling : List Str := ["house", "number", "given"]
theorem sc_answer_telling : FnScope N_answer_telling P_answer_telling (defScope s_answer_telling) := ⟨rfl, rfl, rfl, by decide +kernel, rfl, by decide +kernel, by decide +kernel⟩
abbrev s_tell_entry : Stmt := top 126
abbrev P_tell_entry : List Str := ["house", "number"]
abbrev N_tell_entry : List Str := ["house", "number", "entry"]
theorem sc_tell_entry : FnScope N_tell_entry P_tell_entry (defScope s_tell_entry) := ⟨rfl, rfl, rfl, by decide +kernel, rfl, by decide +kernel, by decide +kernel⟩
abbrev s_tell_paid : Stmt := top 127
abbrev P_tell_paid : List Str := ["house"]
abbrev N_tell_paid : List Str := ["house", "paid", "lights", "entry"]
theorem sc_tell_paid : FnScope N_tell_paid P_tell_paid (defScope s_tell_paid) := ⟨rfl, rfl, rfl, by decide +kernel, rfl, by decide +kernel, by decide +kernel⟩
abbrev s_tell_became : Stmt := top 128
abbrev P_tell_became : List Str := ["house"]
abbrev N_tell_became : List Str := ["house", "entry"]
theorem sc_tell_became : FnScope N_tell_became P_tell_became (defScope s_tell_became) := ⟨rfl, rfl, rfl, by decide +kernel, rfl, by decide +kernel, by decide +kernel⟩
abbrev s_tell_still : Stmt := top 129
abbrev P_tell_still : List Str := ["house", "steps"]
abbrev N_tell_still : List Str := ["house", "steps"]
theorem sc_tell_still : FnScope N_tell_still P_tell_still (defScope s_tell_still) := ⟨rfl, rfl, rfl, by decide +kernel, rfl, by decide +kernel, by decide +kernel⟩
abbrev s_answer_call : Stmt := top 131
abbrev P_answer_call : List Str := ["house", "number", "given"]
abbrev N_answer_call : List Str := ["house", "number", "given"]
theorem sc_answer_call : FnScope N_answer_call P_answer_call (defScope s_answer_call) := ⟨rfl, rfl, rfl, by decide +kernel, rfl, by decide +kernel, by decide +kernel⟩
abbrev s_answers : Stmt := top 132
abbrev P_answers : List Str := ["calls"]
abbrev N_answers : List Str := ["calls", "house", "told", "at", "end", "answer"]
theorem sc_answers : FnScope N_answers P_answers (defScope s_answers) := ⟨rfl, rfl, rfl, by decide +kernel, rfl, by decide +kernel, by decide +kernel⟩
abbrev A_Act : List Str := ["pays", "weights", "turn", "locks"]
abbrev A_Entry : List Str := ["number", "steps", "before", "behind", "pays"]
abbrev A_House : List Str := ["places", "selves", "acts", "stand", "log", "promises"]
/-- where the defs and classes stand -/
structure Nm where
  C_Act : Addr
  f_Act : Addr
  fd_Act : FuncData
  C_Entry : Addr
  f_Entry : Addr
  fd_Entry : FuncData
  C_House : Addr
  f_House : Addr
  fd_House : FuncData
  f_furnish : Addr
  fd_furnish : FuncData
  f_is_begun : Addr
  fd_is_begun : FuncData
  f_has_place : Addr
  fd_has_place : FuncData
  f_has_self : Addr
  fd_has_self : FuncData
  f_has_act : Addr
  fd_has_act : FuncData
  f_may_go : Addr
  fd_may_go : FuncData
  f_stand_behind : Addr
  fd_stand_behind : FuncData
  f_common_divisor : Addr
  fd_common_divisor : FuncData
  f_lowest : Addr
  fd_lowest : FuncData
  f_is_less : Addr
  fd_is_less : FuncData
  f_difference : Addr
  fd_difference : FuncData
  f_all_stands : Addr
  fd_all_stands : FuncData
  f_mean_behind : Addr
  fd_mean_behind : FuncData
  f_brings : Addr
  fd_brings : FuncData
  f_best_act : Addr
  fd_best_act : FuncData
  f_act_done : Addr
  fd_act_done : FuncData
  f_nothing_brought : Addr
  fd_nothing_brought : FuncData
  f_worths_there : Addr
  fd_worths_there : FuncData
  f_one_step_more : Addr
  fd_one_step_more : FuncData
  f_worth_tables : Addr
  fd_worth_tables : FuncData
  f_worth_table : Addr
  fd_worth_table : FuncData
  f_likely_one_step_more : Addr
  fd_likely_one_step_more : FuncData
  f_likely_table : Addr
  fd_likely_table : FuncData
  f_turns_there : Addr
  fd_turns_there : FuncData
  f_never_turns : Addr
  fd_never_turns : FuncData
  f_stands_behind : Addr
  fd_stands_behind : FuncData
  f_surely_stays : Addr
  fd_surely_stays : FuncData
  f_is_kept : Addr
  fd_is_kept : FuncData
  f_would_be_kept : Addr
  fd_would_be_kept : FuncData
  f_all_are_kept : Addr
  fd_all_are_kept : FuncData
  f_is_twin : Addr
  fd_is_twin : FuncData
  f_is_lonely : Addr
  fd_is_lonely : FuncData
  f_twin_of : Addr
  fd_twin_of : FuncData
  f_lonely_acts : Addr
  fd_lonely_acts : FuncData
  f_answer_change : Addr
  fd_answer_change : FuncData
  f_begin : Addr
  fd_begin : FuncData
  f_all_between : Addr
  fd_all_between : FuncData
  f_is_act_row : Addr
  fd_is_act_row : FuncData
  f_settle : Addr
  fd_settle : FuncData
  f_put_act : Addr
  fd_put_act : FuncData
  f_take_act : Addr
  fd_take_act : FuncData
  f_set_turn : Addr
  fd_set_turn : FuncData
  f_set_lock : Addr
  fd_set_lock : FuncData
  f_add_twins : Addr
  fd_add_twins : FuncData
  f_answer_going : Addr
  fd_answer_going : FuncData
  f_place_by_luck : Addr
  fd_place_by_luck : FuncData
  f_has_ended : Addr
  fd_has_ended : FuncData
  f_next_entry : Addr
  fd_next_entry : FuncData
  f_do_entry : Addr
  fd_do_entry : FuncData
  f_tell_ahead : Addr
  fd_tell_ahead : FuncData
  f_go : Addr
  fd_go : FuncData
  f_is_luck_row : Addr
  fd_is_luck_row : FuncData
  f_run : Addr
  fd_run : FuncData
  f_answer_promising : Addr
  fd_answer_promising : FuncData
  f_put_promise : Addr
  fd_put_promise : FuncData
  f_promise_never : Addr
  fd_promise_never : FuncData
  f_promise_stay : Addr
  fd_promise_stay : FuncData
  f_is_worth_row : Addr
  fd_is_worth_row : FuncData
  f_promise_worth : Addr
  fd_promise_worth : FuncData
  f_has_promise : Addr
  fd_has_promise : FuncData
  f_tell_promise : Addr
  fd_tell_promise : FuncData
  f_take_promise : Addr
  fd_take_promise : FuncData
  f_tell_holds : Addr
  fd_tell_holds : FuncData
  f_tell_count : Addr
  fd_tell_count : FuncData
  f_answer_question : Addr
  fd_answer_question : FuncData
  f_put_helper : Addr
  fd_put_helper : FuncData
  f_tell_stand : Addr
  fd_tell_stand : FuncData
  f_tell_act : Addr
  fd_tell_act : FuncData
  f_tell_lights : Addr
  fd_tell_lights : FuncData
  f_tell_cost : Addr
  fd_tell_cost : FuncData
  f_tell_lonely : Addr
  fd_tell_lonely : FuncData
  f_answer_telling : Addr
  fd_answer_telling : FuncData
  f_tell_entry : Addr
  fd_tell_entry : FuncData
  f_tell_paid : Addr
  fd_tell_paid : FuncData
  f_tell_became : Addr
  fd_tell_became : FuncData
  f_tell_still : Addr
  fd_tell_still : FuncData
  f_answer_call : Addr
  fd_answer_call : FuncData
  f_answers : Addr
  fd_answers : FuncData
/-- what the top has left -/
structure Ds (n : Nm) (K : PySem.W.Frag) (mg : Str → Option Value) : Prop where
  n_abs : mg "abs" = none
  n_all : mg "all" = none
  n_any : mg "any" = none
  n_enumerate : mg "enumerate" = none
  n_len : mg "len" = none
  n_list : mg "list" = none
  n_max : mg "max" = none
  n_range : mg "range" = none
  n_sum : mg "sum" = none
  g_MOST_ACTS : ∃ t, mg "MOST_ACTS" = some (.int (3) t)
  g_MOST_STEPS : ∃ t, mg "MOST_STEPS" = some (.int (4) t)
  g_MOST_ENTRIES : ∃ t, mg "MOST_ENTRIES" = some (.int (16) t)
  g_MOST_PROMISES : ∃ t, mg "MOST_PROMISES" = some (.int (4) t)
  g_NEVER : ∃ t, mg "NEVER" = some (.int (0) t)
  g_STAY : ∃ t, mg "STAY" = some (.int (1) t)
  g_WORTH : ∃ t, mg "WORTH" = some (.int (2) t)
  g_NO_SUCH : ∃ t, mg "NO_SUCH" = some (.int (-2) t)
  g_NOT_BEGUN : ∃ t, mg "NOT_BEGUN" = some (.int (-11) t)
  g_ALREADY_PROMISED : ∃ t, mg "ALREADY_PROMISED" = some (.int (-17) t)
  g_NOT_AS_TOLD : ∃ t, mg "NOT_AS_TOLD" = some (.int (-22) t)
  g_FULL : ∃ t, mg "FULL" = some (.int (-28) t)
  g_NOT_KEPT : ∃ t, mg "NOT_KEPT" = some (.int (-30) t)
  g_NO_ACT : ∃ t, mg "NO_ACT" = some (.int (-33) t)
  g_BEGIN : ∃ t, mg "BEGIN" = some (.int (0) t)
  g_ACT : ∃ t, mg "ACT" = some (.int (1) t)
  g_UNACT : ∃ t, mg "UNACT" = some (.int (2) t)
  g_TURN : ∃ t, mg "TURN" = some (.int (3) t)
  g_LOCK : ∃ t, mg "LOCK" = some (.int (4) t)
  g_ADDTWINS : ∃ t, mg "ADDTWINS" = some (.int (5) t)
  g_GO : ∃ t, mg "GO" = some (.int (12) t)
  g_IFGO : ∃ t, mg "IFGO" = some (.int (13) t)
  g_RUN : ∃ t, mg "RUN" = some (.int (14) t)
  g_MOST_LUCK : ∃ t, mg "MOST_LUCK" = some (.int (999) t)
  g_PROMISENEVER : ∃ t, mg "PROMISENEVER" = some (.int (19) t)
  g_PROMISESTAY : ∃ t, mg "PROMISESTAY" = some (.int (20) t)
  g_PROMISEWORTH : ∃ t, mg "PROMISEWORTH" = some (.int (21) t)
  g_PROMISEIS : ∃ t, mg "PROMISEIS" = some (.int (22) t)
  g_UNPROMISE : ∃ t, mg "UNPROMISE" = some (.int (23) t)
  g_HOLDS : ∃ t, mg "HOLDS" = some (.int (24) t)
  g_STAND : ∃ t, mg "STAND" = some (.int (6) t)
  g_WHO : ∃ t, mg "WHO" = some (.int (7) t)
  g_DOES : ∃ t, mg "DOES" = some (.int (8) t)
  g_LIGHTS : ∃ t, mg "LIGHTS" = some (.int (9) t)
  g_COST : ∃ t, mg "COST" = some (.int (10) t)
  g_LONELY : ∃ t, mg "LONELY" = some (.int (11) t)
  g_ENTRY : ∃ t, mg "ENTRY" = some (.int (15) t)
  g_PAID : ∃ t, mg "PAID" = some (.int (16) t)
  g_BECAME : ∃ t, mg "BECAME" = some (.int (17) t)
  g_STILL : ∃ t, mg "STILL" = some (.int (18) t)
  c_Act : Cl K mg "Act" "Act.__init__" s_Act___init__ P_Act___init__ A_Act n.C_Act n.f_Act n.fd_Act
  c_Entry : Cl K mg "Entry" "Entry.__init__" s_Entry___init__ P_Entry___init__ A_Entry n.C_Entry n.f_Entry n.fd_Entry
  c_House : Cl K mg "House" "House.__init__" s_House___init__ P_House___init__ A_House n.C_House n.f_House n.fd_House
  d_furnish : Df K mg "furnish" s_furnish P_furnish n.f_furnish n.fd_furnish
  d_is_begun : Df K mg "is_begun" s_is_begun P_is_begun n.f_is_begun n.fd_is_begun
  d_has_place : Df K mg "has_place" s_has_place P_has_place n.f_has_place n.fd_has_place
  d_has_self : Df K mg "has_self" s_has_self P_has_self n.f_has_self n.fd_has_self
  d_has_act : Df K mg "has_act" s_has_act P_has_act n.f_has_act n.fd_has_act
  d_may_go : Df K mg "may_go" s_may_go P_may_go n.f_may_go n.fd_may_go
  d_stand_behind : Df K mg "stand_behind" s_stand_behind P_stand_behind n.f_stand_behind n.fd_stand_behind
  d_common_divisor : Df K mg "common_divisor" s_common_divisor P_common_divisor n.f_common_divisor n.fd_common_divisor
  d_lowest : Df K mg "lowest" s_lowest P_lowest n.f_lowest n.fd_lowest
  d_is_less : Df K mg "is_less" s_is_less P_is_less n.f_is_less n.fd_is_less
  d_difference : Df K mg "difference" s_difference P_difference n.f_difference n.fd_difference
  d_all_stands : Df K mg "all_stands" s_all_stands P_all_stands n.f_all_stands n.fd_all_stands
  d_mean_behind : Df K mg "mean_behind" s_mean_behind P_mean_behind n.f_mean_behind n.fd_mean_behind
  d_brings : Df K mg "brings" s_brings P_brings n.f_brings n.fd_brings
  d_best_act : Df K mg "best_act" s_best_act P_best_act n.f_best_act n.fd_best_act
  d_act_done : Df K mg "act_done" s_act_done P_act_done n.f_act_done n.fd_act_done
  d_nothing_brought : Df K mg "nothing_brought" s_nothing_brought P_nothing_brought n.f_nothing_brought n.fd_nothing_brought
  d_worths_there : Df K mg "worths_there" s_worths_there P_worths_there n.f_worths_there n.fd_worths_there
  d_one_step_more : Df K mg "one_step_more" s_one_step_more P_one_step_more n.f_one_step_more n.fd_one_step_more
  d_worth_tables : Df K mg "worth_tables" s_worth_tables P_worth_tables n.f_worth_tables n.fd_worth_tables
  d_worth_table : Df K mg "worth_table" s_worth_table P_worth_table n.f_worth_table n.fd_worth_table
  d_likely_one_step_more : Df K mg "likely_one_step_more" s_likely_one_step_more P_likely_one_step_more n.f_likely_one_step_more n.fd_likely_one_step_more
  d_likely_table : Df K mg "likely_table" s_likely_table P_likely_table n.f_likely_table n.fd_likely_table
  d_turns_there : Df K mg "turns_there" s_turns_there P_turns_there n.f_turns_there n.fd_turns_there
  d_never_turns : Df K mg "never_turns" s_never_turns P_never_turns n.f_never_turns n.fd_never_turns
  d_stands_behind : Df K mg "stands_behind" s_stands_behind P_stands_behind n.f_stands_behind n.fd_stands_behind
  d_surely_stays : Df K mg "surely_stays" s_surely_stays P_surely_stays n.f_surely_stays n.fd_surely_stays
  d_is_kept : Df K mg "is_kept" s_is_kept P_is_kept n.f_is_kept n.fd_is_kept
  d_would_be_kept : Df K mg "would_be_kept" s_would_be_kept P_would_be_kept n.f_would_be_kept n.fd_would_be_kept
  d_all_are_kept : Df K mg "all_are_kept" s_all_are_kept P_all_are_kept n.f_all_are_kept n.fd_all_are_kept
  d_is_twin : Df K mg "is_twin" s_is_twin P_is_twin n.f_is_twin n.fd_is_twin
  d_is_lonely : Df K mg "is_lonely" s_is_lonely P_is_lonely n.f_is_lonely n.fd_is_lonely
  d_twin_of : Df K mg "twin_of" s_twin_of P_twin_of n.f_twin_of n.fd_twin_of
  d_lonely_acts : Df K mg "lonely_acts" s_lonely_acts P_lonely_acts n.f_lonely_acts n.fd_lonely_acts
  d_answer_change : Df K mg "answer_change" s_answer_change P_answer_change n.f_answer_change n.fd_answer_change
  d_begin : Df K mg "begin" s_begin P_begin n.f_begin n.fd_begin
  d_all_between : Df K mg "all_between" s_all_between P_all_between n.f_all_between n.fd_all_between
  d_is_act_row : Df K mg "is_act_row" s_is_act_row P_is_act_row n.f_is_act_row n.fd_is_act_row
  d_settle : Df K mg "settle" s_settle P_settle n.f_settle n.fd_settle
  d_put_act : Df K mg "put_act" s_put_act P_put_act n.f_put_act n.fd_put_act
  d_take_act : Df K mg "take_act" s_take_act P_take_act n.f_take_act n.fd_take_act
  d_set_turn : Df K mg "set_turn" s_set_turn P_set_turn n.f_set_turn n.fd_set_turn
  d_set_lock : Df K mg "set_lock" s_set_lock P_set_lock n.f_set_lock n.fd_set_lock
  d_add_twins : Df K mg "add_twins" s_add_twins P_add_twins n.f_add_twins n.fd_add_twins
  d_answer_going : Df K mg "answer_going" s_answer_going P_answer_going n.f_answer_going n.fd_answer_going
  d_place_by_luck : Df K mg "place_by_luck" s_place_by_luck P_place_by_luck n.f_place_by_luck n.fd_place_by_luck
  d_has_ended : Df K mg "has_ended" s_has_ended P_has_ended n.f_has_ended n.fd_has_ended
  d_next_entry : Df K mg "next_entry" s_next_entry P_next_entry n.f_next_entry n.fd_next_entry
  d_do_entry : Df K mg "do_entry" s_do_entry P_do_entry n.f_do_entry n.fd_do_entry
  d_tell_ahead : Df K mg "tell_ahead" s_tell_ahead P_tell_ahead n.f_tell_ahead n.fd_tell_ahead
  d_go : Df K mg "go" s_go P_go n.f_go n.fd_go
  d_is_luck_row : Df K mg "is_luck_row" s_is_luck_row P_is_luck_row n.f_is_luck_row n.fd_is_luck_row
  d_run : Df K mg "run" s_run P_run n.f_run n.fd_run
  d_answer_promising : Df K mg "answer_promising" s_answer_promising P_answer_promising n.f_answer_promising n.fd_answer_promising
  d_put_promise : Df K mg "put_promise" s_put_promise P_put_promise n.f_put_promise n.fd_put_promise
  d_promise_never : Df K mg "promise_never" s_promise_never P_promise_never n.f_promise_never n.fd_promise_never
  d_promise_stay : Df K mg "promise_stay" s_promise_stay P_promise_stay n.f_promise_stay n.fd_promise_stay
  d_is_worth_row : Df K mg "is_worth_row" s_is_worth_row P_is_worth_row n.f_is_worth_row n.fd_is_worth_row
  d_promise_worth : Df K mg "promise_worth" s_promise_worth P_promise_worth n.f_promise_worth n.fd_promise_worth
  d_has_promise : Df K mg "has_promise" s_has_promise P_has_promise n.f_has_promise n.fd_has_promise
  d_tell_promise : Df K mg "tell_promise" s_tell_promise P_tell_promise n.f_tell_promise n.fd_tell_promise
  d_take_promise : Df K mg "take_promise" s_take_promise P_take_promise n.f_take_promise n.fd_take_promise
  d_tell_holds : Df K mg "tell_holds" s_tell_holds P_tell_holds n.f_tell_holds n.fd_tell_holds
  d_tell_count : Df K mg "tell_count" s_tell_count P_tell_count n.f_tell_count n.fd_tell_count
  d_answer_question : Df K mg "answer_question" s_answer_question P_answer_question n.f_answer_question n.fd_answer_question
  d_put_helper : Df K mg "put_helper" s_put_helper P_put_helper n.f_put_helper n.fd_put_helper
  d_tell_stand : Df K mg "tell_stand" s_tell_stand P_tell_stand n.f_tell_stand n.fd_tell_stand
  d_tell_act : Df K mg "tell_act" s_tell_act P_tell_act n.f_tell_act n.fd_tell_act
  d_tell_lights : Df K mg "tell_lights" s_tell_lights P_tell_lights n.f_tell_lights n.fd_tell_lights
  d_tell_cost : Df K mg "tell_cost" s_tell_cost P_tell_cost n.f_tell_cost n.fd_tell_cost
  d_tell_lonely : Df K mg "tell_lonely" s_tell_lonely P_tell_lonely n.f_tell_lonely n.fd_tell_lonely
  d_answer_telling : Df K mg "answer_telling" s_answer_telling P_answer_telling n.f_answer_telling n.fd_answer_telling
  d_tell_entry : Df K mg "tell_entry" s_tell_entry P_tell_entry n.f_tell_entry n.fd_tell_entry
  d_tell_paid : Df K mg "tell_paid" s_tell_paid P_tell_paid n.f_tell_paid n.fd_tell_paid
  d_tell_became : Df K mg "tell_became" s_tell_became P_tell_became n.f_tell_became n.fd_tell_became
  d_tell_still : Df K mg "tell_still" s_tell_still P_tell_still n.f_tell_still n.fd_tell_still
  d_answer_call : Df K mg "answer_call" s_answer_call P_answer_call n.f_answer_call n.fd_answer_call
  d_answers : Df K mg "answers" s_answers P_answers n.f_answers n.fd_answers
theorem Ds.Act_pays {n : Nm} {K : PySem.W.Frag} {mg : Str → Option Value} (D : Ds n K mg) : NoAttr K n.C_Act "pays" := D.c_Act.na _ (by decide +kernel)
theorem Ds.Act_weights {n : Nm} {K : PySem.W.Frag} {mg : Str → Option Value} (D : Ds n K mg) : NoAttr K n.C_Act "weights" := D.c_Act.na _ (by decide +kernel)
theorem Ds.Act_turn {n : Nm} {K : PySem.W.Frag} {mg : Str → Option Value} (D : Ds n K mg) : NoAttr K n.C_Act "turn" := D.c_Act.na _ (by decide +kernel)
theorem Ds.Act_locks {n : Nm} {K : PySem.W.Frag} {mg : Str → Option Value} (D : Ds n K mg) : NoAttr K n.C_Act "locks" := D.c_Act.na _ (by decide +kernel)
theorem Ds.Entry_number {n : Nm} {K : PySem.W.Frag} {mg : Str → Option Value} (D : Ds n K mg) : NoAttr K n.C_Entry "number" := D.c_Entry.na _ (by decide +kernel)
theorem Ds.Entry_steps {n : Nm} {K : PySem.W.Frag} {mg : Str → Option Value} (D : Ds n K mg) : NoAttr K n.C_Entry "steps" := D.c_Entry.na _ (by decide +kernel)
theorem Ds.Entry_before {n : Nm} {K : PySem.W.Frag} {mg : Str → Option Value} (D : Ds n K mg) : NoAttr K n.C_Entry "before" := D.c_Entry.na _ (by decide +kernel)
theorem Ds.Entry_behind {n : Nm} {K : PySem.W.Frag} {mg : Str → Option Value} (D : Ds n K mg) : NoAttr K n.C_Entry "behind" := D.c_Entry.na _ (by decide +kernel)
theorem Ds.Entry_pays {n : Nm} {K : PySem.W.Frag} {mg : Str → Option Value} (D : Ds n K mg) : NoAttr K n.C_Entry "pays" := D.c_Entry.na _ (by decide +kernel)
theorem Ds.House_places {n : Nm} {K : PySem.W.Frag} {mg : Str → Option Value} (D : Ds n K mg) : NoAttr K n.C_House "places" := D.c_House.na _ (by decide +kernel)
theorem Ds.House_selves {n : Nm} {K : PySem.W.Frag} {mg : Str → Option Value} (D : Ds n K mg) : NoAttr K n.C_House "selves" := D.c_House.na _ (by decide +kernel)
theorem Ds.House_acts {n : Nm} {K : PySem.W.Frag} {mg : Str → Option Value} (D : Ds n K mg) : NoAttr K n.C_House "acts" := D.c_House.na _ (by decide +kernel)
theorem Ds.House_stand {n : Nm} {K : PySem.W.Frag} {mg : Str → Option Value} (D : Ds n K mg) : NoAttr K n.C_House "stand" := D.c_House.na _ (by decide +kernel)
theorem Ds.House_log {n : Nm} {K : PySem.W.Frag} {mg : Str → Option Value} (D : Ds n K mg) : NoAttr K n.C_House "log" := D.c_House.na _ (by decide +kernel)
theorem Ds.House_promises {n : Nm} {K : PySem.W.Frag} {mg : Str → Option Value} (D : Ds n K mg) : NoAttr K n.C_House "promises" := D.c_House.na _ (by decide +kernel)
end CI
/-! The mathematics, without the library: fractions, what an act brings. -/
namespace CI
open Kp340 (Fr fr)
open Kp379 (World Act Stand Row)
theorem fr_pos {a b : Int} (h : 0 < b) : fr a b = (a / (Nat.gcd a.natAbs b.natAbs : Nat), b / (Nat.gcd a.natAbs b.natAbs : Nat)) := by
  have hb : 0 < b.natAbs := by omega
  have hg : Nat.gcd a.natAbs b.natAbs ≠ 0 := Nat.pos_iff_ne_zero.mp (Nat.gcd_pos_of_pos_right _ hb)
  unfold fr
  rw [if_neg hg]
  show (if b < 0 then _ else _) = _
  rw [if_neg (by omega)]
/-- the numbers of fr a b are those of a / b by what both have in common -/
theorem fr_parts {a b : Int} (h : 0 < b) : ∃ g : Int, 0 < g ∧ a = (fr a b).1 * g ∧ b = (fr a b).2 * g ∧ 0 < (fr a b).2 := by
  have hb : 0 < b.natAbs := by omega
  have hg : 0 < Nat.gcd a.natAbs b.natAbs := Nat.gcd_pos_of_pos_right _ hb
  have ha : ((Nat.gcd a.natAbs b.natAbs : Nat) : Int) ∣ a := Int.dvd_natAbs.mp (Int.ofNat_dvd.mpr (Nat.gcd_dvd_left _ _))
  have hd : ((Nat.gcd a.natAbs b.natAbs : Nat) : Int) ∣ b := Int.dvd_natAbs.mp (Int.ofNat_dvd.mpr (Nat.gcd_dvd_right _ _))
  have e2 := Int.ediv_mul_cancel hd
  refine ⟨(Nat.gcd a.natAbs b.natAbs : Nat), by omega, ?_, ?_, ?_⟩
  · rw [fr_pos h]
    exact (Int.ediv_mul_cancel ha).symm
  · rw [fr_pos h]
    exact e2.symm
  · rw [fr_pos h]
    exact Int.ediv_pos_of_pos_of_dvd h (by omega) hd
theorem fr_den {a b : Int} (h : 0 < b) : 0 < (fr a b).2 := by
  obtain ⟨g, _, _, _, h4⟩ := fr_parts (a := a) h
  exact h4
theorem fr_cross {a b : Int} (h : 0 < b) : (fr a b).1 * b = a * (fr a b).2 := by
  obtain ⟨g, h1, h2, h3, h4⟩ := fr_parts (a := a) h
  grind
theorem le_mul_natAbs {x g : Int} (h : 0 < g) : x.natAbs ≤ (x * g).natAbs := by
  rw [Int.natAbs_mul]
  exact Nat.le_mul_of_pos_right _ (by omega)
theorem fr_small {a b : Int} (h : 0 < b) : (fr a b).1.natAbs ≤ a.natAbs ∧ (fr a b).2.natAbs ≤ b.natAbs := by
  obtain ⟨g, h1, h2, h3, h4⟩ := fr_parts (a := a) h
  constructor
  · have := le_mul_natAbs (x := (fr a b).1) h1
    rw [← h2] at this
    exact this
  · have := le_mul_natAbs (x := (fr a b).2) h1
    rw [← h3] at this
    exact this
theorem gcd_mul {a b : Int} {k : Nat} : Nat.gcd (a * (k : Int)).natAbs (b * (k : Int)).natAbs = Nat.gcd a.natAbs b.natAbs * k := by
  rw [Int.natAbs_mul, Int.natAbs_mul, Int.natAbs_natCast, Nat.gcd_mul_right]
theorem fr_scale {a b : Int} {k : Nat} (hb : 0 < b) (hk : 0 < k) : fr (a * (k : Int)) (b * (k : Int)) = fr a b := by
  have hbk : 0 < b * (k : Int) := Int.mul_pos hb (by omega)
  rw [fr_pos hbk, fr_pos hb, gcd_mul, Int.natCast_mul]
  rw [Int.mul_ediv_mul_of_pos_left _ _ (by omega), Int.mul_ediv_mul_of_pos_left _ _ (by omega)]
/-- alike crosswise: the same fraction -/
theorem fr_congr {a b c d : Int} (hb : 0 < b) (hd : 0 < d) (h : a * d = c * b) : fr a b = fr c d := by
  have e1 := fr_scale (a := a) (b := b) (k := d.toNat) hb (by omega)
  have e2 := fr_scale (a := c) (b := d) (k := b.toNat) hd (by omega)
  have k1 : ((d.toNat : Nat) : Int) = d := by omega
  have k2 : ((b.toNat : Nat) : Int) = b := by omega
  rw [k1] at e1
  rw [k2] at e2
  rw [← e1, ← e2, h, Int.mul_comm d b]
/-- positive lower number -/
def Pos (x : Fr) : Prop := 0 < x.2
theorem add_cross {x y : Fr} (hx : Pos x) (hy : Pos y) : Pos (Kp340.add x y) ∧ (Kp340.add x y).1 * (x.2 * y.2) = (x.1 * y.2 + y.1 * x.2) * (Kp340.add x y).2 :=
  ⟨fr_den (Int.mul_pos hx hy), fr_cross (Int.mul_pos hx hy)⟩
theorem mul_cross {x y : Fr} (hx : Pos x) (hy : Pos y) : Pos (Kp340.mul x y) ∧ (Kp340.mul x y).1 * (x.2 * y.2) = (x.1 * y.1) * (Kp340.mul x y).2 :=
  ⟨fr_den (Int.mul_pos hx hy), fr_cross (Int.mul_pos hx hy)⟩
/-! ### what an act brings -/
/-- upper and lower number behind so many places, as the loop has them -/
def acc (ws : List Nat) (f : Nat → Fr) : Nat → Int × Int
  | 0 => (0, 1)
  | q + 1 => ((acc ws f q).1 * (f q).2 + (ws.getD q 0 : Nat) * (f q).1 * (acc ws f q).2, (acc ws f q).2 * (f q).2)
theorem acc_pos {ws : List Nat} {f : Nat → Fr} : ∀ {n : Nat}, (∀ q, q < n → Pos (f q)) → 0 < (acc ws f n).2
  | 0, _ => (show (0 : Int) < 1 by decide)
  | n + 1, h => Int.mul_pos (acc_pos fun q hq => h q (by omega)) (h n (by omega))
def term (ws : List Nat) (f : Nat → Fr) (q : Nat) : Fr := if ws.getD q 0 = 0 then (0, 1) else Kp340.mul (Kp346.share ws q) (f q)
theorem term_cross {ws : List Nat} {f : Nat → Fr} {q : Nat} (ht : 0 < Kp346.total ws) (hf : Pos (f q)) :
    Pos (term ws f q) ∧ (term ws f q).1 * ((Kp346.total ws : Nat) * (f q).2) = ((ws.getD q 0 : Nat) * (f q).1) * (term ws f q).2 := by
  unfold term
  by_cases c : ws.getD q 0 = 0
  · rw [if_pos c, c]
    refine ⟨show (0 : Int) < 1 by decide, ?_⟩
    show (0 : Int) * _ = _
    simp
  · rw [if_neg c]
    have hT : 0 < ((Kp346.total ws : Nat) : Int) := by omega
    have hs : Pos (Kp346.share ws q) := fr_den hT
    have h1 : (Kp346.share ws q).1 * (Kp346.total ws : Nat) = (ws.getD q 0 : Nat) * (Kp346.share ws q).2 := fr_cross hT
    obtain ⟨h2, h3⟩ := mul_cross hs hf
    refine ⟨h2, ?_⟩
    have hs' : (Kp346.share ws q).2 ≠ 0 := by unfold Pos at hs; omega
    refine Int.eq_of_mul_eq_mul_right hs' ?_
    grind
theorem sum_cross {ws : List Nat} {f : Nat → Fr} (ht : 0 < Kp346.total ws) : ∀ {n : Nat}, (∀ q, q < n → Pos (f q)) →
    Pos (Kp340.sumF ((List.range n).map (term ws f))) ∧ (Kp340.sumF ((List.range n).map (term ws f))).1 * ((acc ws f n).2 * (Kp346.total ws : Nat)) = (acc ws f n).1 * (Kp340.sumF ((List.range n).map (term ws f))).2
  | 0, _ => ⟨show (0 : Int) < 1 by decide, by show (0 : Int) * _ = 0 * _; simp⟩
  | n + 1, h => by
    obtain ⟨h1, h2⟩ := sum_cross ht (n := n) fun q hq => h q (by omega)
    obtain ⟨h3, h4⟩ := term_cross (ws := ws) ht (h n (by omega))
    have e : Kp340.sumF ((List.range (n + 1)).map (term ws f)) = Kp340.add (Kp340.sumF ((List.range n).map (term ws f))) (term ws f n) := by
      unfold Kp340.sumF
      rw [List.range_succ, List.map_append, List.foldl_append]
      rfl
    rw [e]
    obtain ⟨h5, h6⟩ := add_cross h1 h3
    refine ⟨h5, ?_⟩
    have hz : (Kp340.sumF ((List.range n).map (term ws f))).2 * (term ws f n).2 ≠ 0 := by
      have := Int.mul_pos h1 h3
      omega
    refine Int.eq_of_mul_eq_mul_right hz ?_
    show _ * ((acc ws f n).2 * (f n).2 * _) * _ = ((acc ws f n).1 * (f n).2 + (ws.getD n 0 : Nat) * (f n).1 * (acc ws f n).2) * _ * _
    grind
/-- the loop's fraction is the specification's -/
theorem bring_is {w : World} {a : Act} {f : Nat → Fr} {pay : Int} (ht : 0 < Kp346.total a.to) (hf : ∀ q, q < w.n → Pos (f q)) :
    fr (pay * ((acc a.to f w.n).2 * (Kp346.total a.to : Nat)) + (acc a.to f w.n).1) ((acc a.to f w.n).2 * (Kp346.total a.to : Nat)) = Kp340.add (Kp340.ofInt pay) (Kp379.mean w a f) := by
  obtain ⟨h1, h2⟩ := sum_cross (f := f) ht hf
  have hL := acc_pos (ws := a.to) hf
  have hT : 0 < ((Kp346.total a.to : Nat) : Int) := by omega
  have e : Kp379.mean w a f = Kp340.sumF ((List.range w.n).map (term a.to f)) := rfl
  rw [e]
  unfold Kp340.add Kp340.ofInt
  refine fr_congr (Int.mul_pos hL hT) (Int.mul_pos (show (0 : Int) < 1 by decide) h1) ?_
  show _ * (1 * _) = (pay * _ + _ * 1) * _
  grind
/-! ### how great the numbers are -/
/-- both numbers of a fraction have at most so many bits -/
def Bits (n : Nat) (x : Fr) : Prop := x.1.natAbs < 2 ^ n ∧ x.2.natAbs < 2 ^ n ∧ 0 < x.2
theorem Bits.up {m n : Nat} {x : Fr} (h : Bits m x) (l : m ≤ n) : Bits n x :=
  ⟨Nat.lt_of_lt_of_le h.1 (Nat.pow_le_pow_right (by omega) l), Nat.lt_of_lt_of_le h.2.1 (Nat.pow_le_pow_right (by omega) l), h.2.2⟩
theorem acc_small {ws : List Nat} {f : Nat → Fr} {B : Nat} (hw : ∀ q, ws.getD q 0 ≤ 9) : ∀ {n : Nat}, (∀ q, q < n → Bits B (f q)) →
    (acc ws f n).2.natAbs ≤ 2 ^ (n * B) ∧ (acc ws f n).1.natAbs ≤ 9 * n * 2 ^ (n * B)
  | 0, _ => by
    rw [Nat.zero_mul]
    exact ⟨show (1 : Int).natAbs ≤ 2 ^ 0 by decide, show (0 : Int).natAbs ≤ 9 * 0 * 2 ^ 0 by decide⟩
  | n + 1, h => by
    obtain ⟨h1, h2⟩ := acc_small hw (n := n) fun q hq => h q (by omega)
    obtain ⟨b1, b2, b3⟩ := h n (by omega)
    have hq := hw n
    have e : 2 ^ ((n + 1) * B) = 2 ^ (n * B) * 2 ^ B := by rw [← Nat.pow_add]; congr 1; grind
    have m1 : (acc ws f n).2.natAbs * (f n).2.natAbs ≤ 2 ^ (n * B) * 2 ^ B := Nat.mul_le_mul h1 (by omega)
    constructor
    · show ((acc ws f n).2 * (f n).2).natAbs ≤ _
      rw [Int.natAbs_mul, e]
      exact m1
    · show ((acc ws f n).1 * (f n).2 + (ws.getD n 0 : Nat) * (f n).1 * (acc ws f n).2).natAbs ≤ _
      refine Nat.le_trans (Int.natAbs_add_le _ _) ?_
      rw [Int.natAbs_mul, Int.natAbs_mul, Int.natAbs_mul, Int.natAbs_natCast, e]
      have m2 : (acc ws f n).1.natAbs * (f n).2.natAbs ≤ (9 * n * 2 ^ (n * B)) * 2 ^ B := Nat.mul_le_mul h2 (by omega)
      have m3 : ws.getD n 0 * (f n).1.natAbs * (acc ws f n).2.natAbs ≤ 9 * 2 ^ B * 2 ^ (n * B) := Nat.mul_le_mul (Nat.mul_le_mul hq (by omega)) h1
      calc _ ≤ (9 * n * 2 ^ (n * B)) * 2 ^ B + 9 * 2 ^ B * 2 ^ (n * B) := Nat.add_le_add m2 m3
        _ = 9 * (n + 1) * (2 ^ (n * B) * 2 ^ B) := by grind
theorem total_append (l : List Nat) (x : Nat) : Kp346.total (l ++ [x]) = Kp346.total l + x := by
  unfold Kp346.total
  rw [List.foldl_append]
  rfl
theorem foldl_add (l : List Nat) : ∀ a : Nat, l.foldl (fun (a b : Nat) => a + b) a = a + Kp346.total l := by
  unfold Kp346.total
  induction l with
  | nil => intro a; rfl
  | cons x r ih =>
    intro a
    show r.foldl _ (a + x) = a + r.foldl _ (0 + x)
    rw [ih (a + x), ih (0 + x)]
    omega
theorem total_cons (x : Nat) (l : List Nat) : Kp346.total (x :: l) = x + Kp346.total l := by
  show l.foldl _ (0 + x) = _
  rw [foldl_add]
  omega
theorem total_le {k : Nat} : ∀ {l : List Nat}, (∀ x ∈ l, x ≤ k) → Kp346.total l ≤ k * l.length
  | [], _ => Nat.zero_le _
  | x :: r, h => by
    rw [total_cons, List.length_cons]
    have h1 := h x (List.mem_cons_self ..)
    have h2 := total_le (k := k) (l := r) fun y hy => h y (List.mem_cons_of_mem _ hy)
    rw [Nat.mul_add]
    omega
theorem getD_le {l : List Nat} {k : Nat} (h : ∀ x ∈ l, x ≤ k) (q : Nat) : l.getD q 0 ≤ k := by
  by_cases c : q < l.length
  · rw [List.getD_eq_getElem?_getD, List.getElem?_eq_getElem c]
    exact h _ (List.getElem_mem c)
  · rw [List.getD_eq_getElem?_getD, List.getElem?_eq_none (by omega)]
    exact Nat.zero_le _
/-- what an act brings has at most four times as many bits and ten -/
theorem bring_bits {n B tot : Nat} {ws : List Nat} {f : Nat → Fr} {pay : Int} (hn : n ≤ 4) (hw : ∀ q, ws.getD q 0 ≤ 9) (hp : pay.natAbs ≤ 9) (ht : 0 < tot) (ht2 : tot ≤ 36) (hf : ∀ q, q < n → Bits B (f q)) :
    let L := (acc ws f n).2 * (tot : Int)
    (acc ws f n).2.natAbs < 2 ^ (4 * B + 10) ∧ (acc ws f n).1.natAbs < 2 ^ (4 * B + 10) ∧ (pay * L).natAbs < 2 ^ (4 * B + 10) ∧ Bits (4 * B + 10) (fr (pay * L + (acc ws f n).1) L) ∧ 0 < L ∧ L.natAbs < 2 ^ (4 * B + 10) := by
  intro L
  obtain ⟨h1, h2⟩ := acc_small hw hf
  have hP := acc_pos (ws := ws) (f := f) (n := n) fun q hq => (hf q hq).2.2
  have hL : 0 < L := Int.mul_pos hP (by omega)
  have e4 : 2 ^ (n * B) ≤ 2 ^ (4 * B) := Nat.pow_le_pow_right (by omega) (Nat.mul_le_mul_right _ hn)
  have e10 : 2 ^ (4 * B + 10) = 1024 * 2 ^ (4 * B) := by rw [Nat.pow_add]; omega
  have p4 : 0 < 2 ^ (4 * B) := Nat.pow_pos (by omega)
  have u1 : (acc ws f n).1.natAbs ≤ 36 * 2 ^ (4 * B) := Nat.le_trans h2 (Nat.mul_le_mul (by omega) e4)
  have l1 : L.natAbs ≤ 2 ^ (4 * B) * 36 := by
    rw [Int.natAbs_mul, Int.natAbs_natCast]
    exact Nat.mul_le_mul (Nat.le_trans h1 e4) ht2
  have m1 : (pay * L).natAbs ≤ 9 * (2 ^ (4 * B) * 36) := by
    rw [Int.natAbs_mul]
    exact Nat.mul_le_mul hp l1
  have s1 : (pay * L + (acc ws f n).1).natAbs ≤ 9 * (2 ^ (4 * B) * 36) + 36 * 2 ^ (4 * B) := Nat.le_trans (Int.natAbs_add_le _ _) (Nat.add_le_add m1 u1)
  obtain ⟨s2, s3⟩ := fr_small (a := pay * L + (acc ws f n).1) hL
  refine ⟨by omega, by omega, by omega, ⟨by omega, by omega, fr_den hL⟩, hL, by omega⟩
/-! ### the mean by itself, and a pay added to it -/
theorem fr_low {a b : Int} (h : 0 < b) : fr (fr a b).1 (fr a b).2 = fr a b := fr_congr (fr_den h) h (fr_cross h)
theorem sum_low {ws : List Nat} {f : Nat → Fr} (ht : 0 < Kp346.total ws) : ∀ {n : Nat}, (∀ q, q < n → Pos (f q)) →
    fr (Kp340.sumF ((List.range n).map (term ws f))).1 (Kp340.sumF ((List.range n).map (term ws f))).2 = Kp340.sumF ((List.range n).map (term ws f))
  | 0, _ => show fr 0 1 = ((0 : Int), (1 : Int)) by decide
  | n + 1, h => by
    obtain ⟨h1, _⟩ := sum_cross ht (n := n) fun q hq => h q (by omega)
    obtain ⟨h3, _⟩ := term_cross (ws := ws) ht (h n (by omega))
    have e : Kp340.sumF ((List.range (n + 1)).map (term ws f)) = Kp340.add (Kp340.sumF ((List.range n).map (term ws f))) (term ws f n) := by
      unfold Kp340.sumF
      rw [List.range_succ, List.map_append, List.foldl_append]
      rfl
    rw [e]
    exact fr_low (Int.mul_pos h1 h3)
theorem mean_is {w : World} {a : Act} {f : Nat → Fr} (ht : 0 < Kp346.total a.to) (hf : ∀ q, q < w.n → Pos (f q)) :
    fr (acc a.to f w.n).1 ((acc a.to f w.n).2 * (Kp346.total a.to : Nat)) = Kp379.mean w a f := by
  obtain ⟨h1, h2⟩ := sum_cross (f := f) ht hf
  have hL := acc_pos (ws := a.to) hf
  have hT : 0 < ((Kp346.total a.to : Nat) : Int) := by omega
  have e : Kp379.mean w a f = Kp340.sumF ((List.range w.n).map (term a.to f)) := rfl
  rw [e, ← sum_low ht hf]
  exact fr_congr (Int.mul_pos hL hT) h1 h2.symm
theorem gcd_shift (p a b : Int) : Nat.gcd (p * b + a).natAbs b.natAbs = Nat.gcd a.natAbs b.natAbs := by
  show Int.gcd (p * b + a) b = Int.gcd a b
  simp
theorem pair_is {p a b : Int} (hb : 0 < b) : (p * (fr a b).2 + (fr a b).1, (fr a b).2) = fr (p * b + a) b := by
  rw [fr_pos hb, fr_pos hb, gcd_shift]
  have d1 : ((Nat.gcd a.natAbs b.natAbs : Nat) : Int) ∣ b := Int.ofNat_dvd_left.mpr (Nat.gcd_dvd_right _ _)
  have d2 : ((Nat.gcd a.natAbs b.natAbs : Nat) : Int) ∣ a := Int.ofNat_dvd_left.mpr (Nat.gcd_dvd_left _ _)
  show (p * (b / _) + a / _, b / _) = ((p * b + a) / _, b / _)
  rw [Int.add_ediv_of_dvd_right d2, Int.mul_ediv_assoc _ d1]
end CI
/-! The best act; stands by their places; rows of worths. -/
namespace CI
open Kp340 (Fr fr)
open Kp379 (World Act Stand Row)
theorem bestIn_snoc (l : List Fr) (y : Fr) : Kp379.bestIn (l ++ [y]) = match Kp379.bestIn l with
    | none => some (l.length, y)
    | some c => if Kp346.ltF c.2 y then some (l.length, y) else some c := by
  unfold Kp379.bestIn
  rw [List.zipIdx_append, List.foldl_append]
  simp only [List.zipIdx_cons, List.zipIdx_nil, List.foldl_cons, List.foldl_nil, Nat.zero_add]
  split <;> simp_all
theorem bestIn_nil : Kp379.bestIn [] = none := rfl
theorem bestIn_one (y : Fr) : Kp379.bestIn [y] = some (0, y) := rfl
theorem bestIn_take {l : List Fr} {i : Nat} {y : Fr} (h : l[i]? = some y) : Kp379.bestIn (l.take (i + 1)) = match Kp379.bestIn (l.take i) with
    | none => some (i, y)
    | some c => if Kp346.ltF c.2 y then some (i, y) else some c := by
  have hi := (List.getElem?_eq_some_iff.mp h).1
  have e : l.take (i + 1) = l.take i ++ [y] := by rw [List.take_add_one, h]; rfl
  have e2 : (l.take i).length = i := by rw [List.length_take]; omega
  rw [e, bestIn_snoc, e2]
theorem bestIn_some : ∀ (l : List Fr), l ≠ [] → ∃ b, Kp379.bestIn l = some b ∧ b.1 < l.length ∧ l[b.1]? = some b.2 := by
  intro l h
  suffices hs : ∀ i, 0 < i → i ≤ l.length → ∃ b, Kp379.bestIn (l.take i) = some b ∧ b.1 < i ∧ l[b.1]? = some b.2 by
    have := hs l.length (by cases l <;> simp_all) (Nat.le_refl _)
    rw [List.take_length] at this
    exact this
  intro i h0 hi
  induction i with
  | zero => omega
  | succ i ih =>
    have hl : l[i]? = some l[i] := List.getElem?_eq_getElem (by omega)
    rw [bestIn_take hl]
    by_cases c : i = 0
    · subst c
      exact ⟨(0, l[0]), rfl, by omega, hl⟩
    · obtain ⟨b, h1, h2, h3⟩ := ih (by omega) (by omega)
      rw [h1]
      show ∃ b', (if Kp346.ltF b.2 l[i] = true then some (i, l[i]) else some b) = some b' ∧ _
      split
      · exact ⟨(i, l[i]), rfl, by show i < i + 1; omega, hl⟩
      · exact ⟨b, rfl, by omega, h3⟩
/-! ### stands -/
theorem flat_len {α : Type} {k : Nat} (g : Nat → List α) (h : ∀ i, (g i).length = k) : ∀ n, ((List.range n).flatMap g).length = n * k
  | 0 => by simp
  | n + 1 => by
    rw [List.range_succ, List.flatMap_append, List.length_append, flat_len g h n]
    simp [h]
    grind
theorem flat_get {α : Type} {k : Nat} (g : Nat → List α) (h : ∀ i, (g i).length = k) : ∀ (n i j : Nat), i < n → j < k → ((List.range n).flatMap g)[i * k + j]? = (g i)[j]?
  | 0, i, j, hi, _ => by omega
  | n + 1, i, j, hi, hj => by
    have e : (List.range (n + 1)).flatMap g = (List.range n).flatMap g ++ g n := by
      rw [List.range_succ, List.flatMap_append]
      simp
    have hl := flat_len g h n
    rw [e]
    by_cases c : i < n
    · have : i * k + j < n * k := by
        have : (i + 1) * k ≤ n * k := Nat.mul_le_mul_right _ (by omega)
        grind
      rw [List.getElem?_append_left (by omega)]
      exact flat_get g h n i j c hj
    · have hin : i = n := by omega
      subst hin
      rw [List.getElem?_append_right (by omega), hl]
      congr 1
      omega
/-- both stands of a self at a place -/
def two (p s : Nat) : List Stand := [⟨p, s, false⟩, ⟨p, s, true⟩]
theorem stands_eq (w : World) : Kp379.stands w = (List.range w.n).flatMap fun p => (List.range w.v).flatMap (two p) := rfl
theorem stands_len (w : World) : (Kp379.stands w).length = w.n * (w.v * 2) := by
  rw [stands_eq]
  exact flat_len _ (fun p => flat_len (k := 2) (two p) (fun _ => rfl) w.v) w.n
theorem stand_at {w : World} {x : Stand} (h : x.p < w.n ∧ x.s < w.v) : (Kp379.stands w)[Kp379.index w x]? = some x := by
  rw [stands_eq]
  have e : Kp379.index w x = x.p * (w.v * 2) + (x.s * 2 + (if x.locked then 1 else 0)) := by
    unfold Kp379.index
    grind
  have hb : (if x.locked = true then 1 else 0) < 2 := by split <;> omega
  rw [e, flat_get _ (fun p => flat_len (k := 2) (two p) (fun _ => rfl) w.v) w.n x.p _ h.1 (by omega), flat_get (two x.p) (fun _ => rfl) w.v x.s _ h.2 hb]
  obtain ⟨p, s, l⟩ := x
  cases l <;> rfl
theorem mem_stands {w : World} {x : Stand} (h : x ∈ Kp379.stands w) : x.p < w.n ∧ x.s < w.v := by
  rw [stands_eq] at h
  simp only [List.mem_flatMap, List.mem_range, two, List.mem_cons, List.not_mem_nil, or_false] at h
  obtain ⟨p, hp, s, hs, h⟩ := h
  rcases h with rfl | rfl <;> exact ⟨hp, hs⟩
/-! ### rows -/
theorem rows_succ (w : World) (k : Nat) : Kp379.rows w (k + 1) = Kp379.rows w k ++ [Kp379.nextRow w (Kp379.rowAt w k)] := by
  unfold Kp379.rowAt
  show (List.range (k + 1)).foldl _ _ = _
  rw [List.range_succ, List.foldl_append]
  rfl
theorem rowAt_zero (w : World) : Kp379.rowAt w 0 = Kp379.zeros w := rfl
theorem rowAt_succ (w : World) (k : Nat) : Kp379.rowAt w (k + 1) = Kp379.nextRow w (Kp379.rowAt w k) := by
  show (Kp379.rows w (k + 1)).getLastD _ = _
  rw [rows_succ]
  simp
theorem rows_len (w : World) : ∀ k, (Kp379.rows w k).length = k + 1
  | 0 => rfl
  | k + 1 => by rw [rows_succ, List.length_append, rows_len w k]; rfl
theorem rows_get (w : World) : ∀ (k j : Nat), j ≤ k → (Kp379.rows w k)[j]? = some (Kp379.rowAt w j)
  | 0, j, h => by
    have : j = 0 := by omega
    subst this
    rfl
  | k + 1, j, h => by
    rw [rows_succ]
    by_cases c : j ≤ k
    · rw [List.getElem?_append_left (by rw [rows_len]; omega)]
      exact rows_get w k j c
    · have : j = k + 1 := by omega
      subst this
      rw [List.getElem?_append_right (by rw [rows_len]; omega), rows_len, rowAt_succ]
      simp
/-- a row's entry at a stand -/
def ent (w : World) (r : Row) (x : Stand) : Option Nat × List Fr := r.getD (Kp379.index w x) (none, [])
theorem ent_map {w : World} {x : Stand} (g : Stand → Option Nat × List Fr) (h : x.p < w.n ∧ x.s < w.v) : ent w ((Kp379.stands w).map g) x = g x := by
  unfold ent
  rw [List.getD_eq_getElem?_getD, List.getElem?_map, stand_at h]
  rfl
def none0 (w : World) : List Fr := (List.range w.v).map fun _ => ((0 : Int), (1 : Int))
theorem ent_zero {w : World} {x : Stand} (h : x.p < w.n ∧ x.s < w.v) : ent w (Kp379.rowAt w 0) x = (none, none0 w) := ent_map (fun _ => (none, none0 w)) h
/-- what is done there with one step more, and its worths -/
def step1 (w : World) (r : Row) (x : Stand) : Option Nat × List Fr := match Kp379.bestIn ((Kp379.actsAt w x.p).map fun a => Kp379.bring w r x a x.s) with
  | none => (none, none0 w)
  | some b => (some b.1, (List.range w.v).map fun u => Kp379.bring w r x (Kp379.actAt w x.p b.1) u)
theorem ent_next {w : World} {r : Row} {x : Stand} (h : x.p < w.n ∧ x.s < w.v) : ent w (Kp379.nextRow w r) x = step1 w r x := ent_map (step1 w r) h
end CI
namespace CI
open PySem PySem.Spec PyProof.Rows L2
open Evl (Ex fresh_back)
open Kp340 (Fr fr)
section
variable {P : Program} {w : World} {K : PySem.W.Frag} {mg : Str → Option Value} {base : Heap} {n : Nm}
/-! ### common_divisor -/
def sp_common_divisor : Sp := fun vs H Q _ => ∃ a b : Nat, vs = [.int (a : Int), .int (b : Int)] ∧ RetR (fun v _ => v = .int (Nat.gcd a b : Nat)) H Q
theorem ok_common_divisor (D : Ds n K mg) : FnOk P w K mg base CX0 1 n.f_common_divisor n.fd_common_divisor P_common_divisor sp_common_divisor := by
  refine D.d_common_divisor.F.ok sc_common_divisor (fun vs H Q E h => ?_) (fun cdv A outer s H vs Q E hr h => ?_)
  · obtain ⟨a, b, rfl, _⟩ := h
    rfl
  · obtain ⟨a, b, rfl, k⟩ := h
    refine ⟨_, (pss_cons (ps_while PassesOwn.never (pt_cmpR op_ne (pv 1) pe_int (nomark _))
        (pss_cons (ps_set (i := 2) sc_common_divisor.nd rfl (Or.inl rfl) (pe_op op_mod (pv 0) (pv 1)))
        (pss_cons (ps_set (i := 0) sc_common_divisor.nd rfl (Or.inl rfl) (pv 1))
        (pss_one (ps_set (i := 1) sc_common_divisor.nd rfl (Or.inl rfl) (pv 2))))))
      (pss_one (ps_ret (pv 0)))), ?_⟩
    refine ⟨fun m σ H' => H' = H ∧ ∃ (x : Nat) (r : Option V), σ = [some (.int (x : Int)), some (.int (m : Int)), r] ∧ Nat.gcd x m = Nat.gcd a b, ⟨b, rfl, a, none, rfl, rfl⟩, ?_⟩
    rintro y σ H' ⟨rfl, x, r, rfl, hg⟩
    refine ⟨_, rfl, rfl, _, rfl, ?_⟩
    by_cases c : y = 0
    · subst c
      refine if_f (by simp) ?_
      refine ⟨_, rfl, k.go (Evl.Ex.refl _) ?_⟩
      rw [← hg, Nat.gcd_zero_right]
    · have hy : 0 < (y : Int) := by omega
      refine if_t (by simp; omega) ?_
      refine ⟨fun σ' H'' => H'' = H' ∧ ∃ r, σ' = [some (.int (y : Int)), some (.int ((x : Int) % (y : Int))), r], ?_, ?_⟩
      · rintro σ' H'' ⟨rfl, r', rfl⟩
        have h1 := Int.emod_lt_of_pos (x : Int) hy
        have h2 := Int.emod_nonneg (x : Int) (show (y : Int) ≠ 0 by omega)
        refine ⟨x % y, Nat.mod_lt _ (by omega), rfl, y, r', ?_, ?_⟩
        · rw [Int.natCast_emod]
        · rw [← hg, Nat.gcd_comm y, ← Nat.gcd_rec, Nat.gcd_comm]
      · refine ⟨_, rfl, _, rfl, _, _, rfl, rfl, hy, ?_⟩
        refine ⟨_, rfl, ?_⟩
        exact ⟨_, rfl, rfl, _, rfl⟩
/-! ### lowest -/
def sp_lowest : Sp := fun vs H Q _ => ∃ (a b : Int), vs = [.int a, .int b] ∧ 0 < b ∧ b.natAbs < 2 ^ 9000 ∧ RetR (IsFr (fr a b)) H Q
theorem ok_lowest (D : Ds n K mg) : FnOk P w K mg base CX0 2 n.f_lowest n.fd_lowest P_lowest sp_lowest := by
  have G_common_divisor := ok_common_divisor (P := P) (w := w) (base := base) D
  refine D.d_lowest.F.ok sc_lowest (fun vs H Q E h => ?_) (fun cdv A outer s H vs Q E hr h => ?_)
  · obtain ⟨a, b, rfl, _⟩ := h
    rfl
  · obtain ⟨a, b, rfl, hb, hz, k⟩ := h
    refine ⟨_, (pss_cons (ps_set (i := 2) sc_lowest.nd rfl (Or.inl rfl) (pe_call G_common_divisor hr rfl D.d_common_divisor.g D.d_common_divisor.F.kp D.d_common_divisor.b .nil pass0 (pa_cons (pe_callB call_abs (by rfl) D.n_abs (by decide +kernel) (pa_cons (pv 0) pa_nil)) (pa_cons (pv 1) pa_nil))))
      (pss_one (ps_ret (pe_tup (pa_cons (pe_op op_fdivW (pv 0) (pv 2)) (pa_cons (pe_op op_fdivW (pv 1) (pv 2)) pa_nil)))))), ?_⟩
    have hg : 0 < Nat.gcd a.natAbs b.natAbs := Nat.gcd_pos_of_pos_right _ (by omega)
    have hl : Nat.gcd a.natAbs b.natAbs ≤ b.natAbs := Nat.gcd_le_right _ (by omega)
    have cd : ∀ z : Int, CDivW z ((Nat.gcd a.natAbs b.natAbs : Nat) : Int) := fun z => wide_div (b := 9000) (by omega) (by omega) (by decide) (by decide)
    refine ⟨_, rfl, _, rfl, _, rfl, a.natAbs, b.natAbs, ?_, fun v H2 e2 hv => ?_⟩
    · show [V.int (if a < 0 then -a else a), V.int b] = [V.int (a.natAbs : Int), V.int (b.natAbs : Int)]
      have e1 : (if a < 0 then -a else a) = (a.natAbs : Int) := by split <;> omega
      have e2 : b = (b.natAbs : Int) := by omega
      rw [e1, ← e2]
    · subst hv
      refine ⟨_, rfl, _, rfl, _, _, rfl, rfl, cd _, _, rfl, _, rfl, _, _, rfl, rfl, cd _, (by show 2 ≤ sizeLine; decide), fun p hp => ?_⟩
      refine k.go (e2.trans (Evl.Ex.new hp)) ⟨p, rfl, ?_⟩
      rw [fr_pos hb]
      exact upd_same
/-! ### is_less -/
def sp_is_less : Sp := fun vs H Q _ => ∃ (u v : V) (x y : Fr), vs = [u, v] ∧ IsFr x u H ∧ IsFr y v H ∧ Bits 9000 x ∧ Bits 9000 y ∧ RetR (fun v _ => v = .bl (Kp346.ltF x y)) H Q
theorem mulW {i j : Int} (hi : i.natAbs < 2 ^ 9000) (hj : j.natAbs < 2 ^ 9000) : CMulW i j := wide_mul hi hj (by decide) (by decide) (by decide)
theorem ok_is_less (D : Ds n K mg) : FnOk P w K mg base CX0 1 n.f_is_less n.fd_is_less P_is_less sp_is_less := by
  refine D.d_is_less.F.ok sc_is_less (fun vs H Q E h => ?_) (fun cdv A outer s H vs Q E hr h => ?_)
  · obtain ⟨u, v, x, y, rfl, _⟩ := h
    rfl
  · obtain ⟨u, v, x, y, rfl, ⟨p, rfl, hp⟩, ⟨q, rfl, hq⟩, bx, bY, k⟩ := h
    refine ⟨_, (pss_one (ps_ret (pe_cmpR op_lt (pe_op op_mulW (pe_ix ix_tup (pv 0) pe_int (fun _ _ => rfl)) (pe_ix ix_tup (pv 1) pe_int (fun _ _ => rfl))) (pe_op op_mulW (pe_ix ix_tup (pv 1) pe_int (fun _ _ => rfl)) (pe_ix ix_tup (pv 0) pe_int (fun _ _ => rfl))) (nomark _)))), ?_⟩
    refine ⟨_, rfl, p, _, _, _, rfl, rfl, sqT hp, rfl, _, rfl, q, _, _, _, rfl, rfl, sqT hq, rfl, _, _, rfl, rfl, mulW bx.1 bY.2.1,
      _, rfl, q, _, _, _, rfl, rfl, sqT hq, rfl, _, rfl, p, _, _, _, rfl, rfl, sqT hp, rfl, _, _, rfl, rfl, mulW bY.1 bx.2.1, _, _, rfl, rfl, ?_⟩
    exact k.go (Evl.Ex.refl _) rfl
/-! ### difference -/
def sp_difference : Sp := fun vs H Q _ => ∃ (u v : V) (x y : Fr), vs = [u, v] ∧ IsFr x u H ∧ IsFr y v H ∧ Bits 4000 x ∧ Bits 4000 y ∧ RetR (IsFr (Kp346.sub x y)) H Q
theorem up9 {i : Int} (h : i.natAbs < 2 ^ 4000) : i.natAbs < 2 ^ 9000 := Nat.lt_of_lt_of_le h (Nat.pow_le_pow_right (by decide) (by omega))
theorem ok_difference (D : Ds n K mg) : FnOk P w K mg base CX0 3 n.f_difference n.fd_difference P_difference sp_difference := by
  have G_lowest := ok_lowest (P := P) (w := w) (base := base) D
  refine D.d_difference.F.ok sc_difference (fun vs H Q E h => ?_) (fun cdv A outer s H vs Q E hr h => ?_)
  · obtain ⟨u, v, x, y, rfl, _⟩ := h
    rfl
  · obtain ⟨u, v, x, y, rfl, ⟨p, rfl, hp⟩, ⟨q, rfl, hq⟩, bx, bY, k⟩ := h
    refine ⟨_, (pss_one (ps_ret (pe_call G_lowest hr rfl D.d_lowest.g D.d_lowest.F.kp D.d_lowest.b .nil pass0 (pa_cons (pe_op op_sub (pe_op op_mulW (pe_ix ix_tup (pv 0) pe_int (fun _ _ => rfl)) (pe_ix ix_tup (pv 1) pe_int (fun _ _ => rfl))) (pe_op op_mulW (pe_ix ix_tup (pv 1) pe_int (fun _ _ => rfl)) (pe_ix ix_tup (pv 0) pe_int (fun _ _ => rfl)))) (pa_cons (pe_op op_mulW (pe_ix ix_tup (pv 0) pe_int (fun _ _ => rfl)) (pe_ix ix_tup (pv 1) pe_int (fun _ _ => rfl))) pa_nil))))), ?_⟩
    refine ⟨_, rfl, p, _, _, _, rfl, rfl, sqT hp, rfl, _, rfl, q, _, _, _, rfl, rfl, sqT hq, rfl, _, _, rfl, rfl, mulW (up9 bx.1) (up9 bY.2.1),
      _, rfl, q, _, _, _, rfl, rfl, sqT hq, rfl, _, rfl, p, _, _, _, rfl, rfl, sqT hp, rfl, _, _, rfl, rfl, mulW (up9 bY.1) (up9 bx.2.1), _, _, rfl, rfl,
      _, rfl, p, _, _, _, rfl, rfl, sqT hp, rfl, _, rfl, q, _, _, _, rfl, rfl, sqT hq, rfl, _, _, rfl, rfl, mulW (up9 bx.2.1) (up9 bY.2.1), ?_⟩
    refine ⟨_, _, rfl, Int.mul_pos bx.2.2 bY.2.2, ?_, ?_⟩
    · refine Nat.lt_of_lt_of_le (wide_lt bx.2.1 bY.2.1) (Nat.pow_le_pow_right (by decide) (by omega))
    · have e : fr (x.1 * y.2 - y.1 * x.2) (x.2 * y.2) = Kp346.sub x y := by
        unfold Kp346.sub Kp340.add Kp340.neg
        show _ = fr (x.1 * y.2 + -y.1 * x.2) (x.2 * y.2)
        rw [Int.neg_mul, Int.sub_eq_add_neg]
      rw [e]
      exact k
end
end CI
/-! How the house's things lie in the heap. -/
namespace CI
open PySem PySem.Spec PyProof.Rows L2
open Evl (Ex fresh_back)
open Kp340 (Fr fr)
open Kp379 (Stand)
theorem lk_here {k : Str} {v : V} {r : List (Str × V)} : List.lookup k ((k, v) :: r) = some v := by
  have e : (k == k) = true := beq_self_eq_true k
  simp only [List.lookup, e]
theorem lk_past {k g : Str} {v : V} {r : List (Str × V)} (h : (k == g) = false) : List.lookup k ((g, v) :: r) = List.lookup k r := by
  simp only [List.lookup, h]
theorem put_here {f : Str} {v x : V} {r : List (Str × V)} : putF f v ((f, x) :: r) = (f, v) :: r := if_pos rfl
theorem put_past {f g : Str} {v x : V} {r : List (Str × V)} (h : ¬ g = f) : putF f v ((g, x) :: r) = (g, x) :: putF f v r := if_neg h
def b2 (b : Bool) : Int := if b then 1 else 0
/-! ### lists of things -/
def Each {α : Type} (R : α → V → Hp → Prop) (l : List α) (vs : List V) (H : Hp) : Prop := vs.length = l.length ∧ ∀ (i : Nat) (a : α), l[i]? = some a → ∃ v, vs[i]? = some v ∧ R a v H
theorem Each.mono {α : Type} {R : α → V → Hp → Prop} {l : List α} {vs : List V} {H H' : Hp} (h : Each R l vs H) (m : ∀ a v, R a v H → R a v H') : Each R l vs H' :=
  ⟨h.1, fun i a e => by
    obtain ⟨v, h1, h2⟩ := h.2 i a e
    exact ⟨v, h1, m a v h2⟩⟩
theorem Each.nil {α : Type} {R : α → V → Hp → Prop} {H : Hp} : Each R [] [] H := ⟨rfl, fun i a h => by simp at h⟩
theorem Each.snoc {α : Type} {R : α → V → Hp → Prop} {l : List α} {vs : List V} {H : Hp} {a : α} {v : V} (h : Each R l vs H) (r : R a v H) : Each R (l ++ [a]) (vs ++ [v]) H := by
  refine ⟨by simp [h.1], fun i b e => ?_⟩
  by_cases c : i < l.length
  · rw [List.getElem?_append_left c] at e
    obtain ⟨u, h1, h2⟩ := h.2 i b e
    exact ⟨u, by rw [List.getElem?_append_left (by rw [h.1]; exact c)]; exact h1, h2⟩
  · have hi : i = l.length := by
      have := (List.getElem?_eq_some_iff.mp e).1
      simp at this
      omega
    subst hi
    have e' : a = b := by simpa using e
    subst e'
    refine ⟨v, ?_, r⟩
    rw [← h.1]
    simp
theorem Each.back {α : Type} {R : α → V → Hp → Prop} {l : List α} {vs : List V} {H : Hp} (h : Each R l vs H) {i : Nat} {v : V} (e : vs[i]? = some v) : ∃ a, l[i]? = some a ∧ R a v H := by
  have hi := (List.getElem?_eq_some_iff.mp e).1
  have hl : i < l.length := by rw [← h.1]; exact hi
  obtain ⟨u, h1, h2⟩ := h.2 i l[i] (List.getElem?_eq_getElem hl)
  have : u = v := Option.some.inj (h1.symm.trans e)
  subst this
  exact ⟨l[i], List.getElem?_eq_getElem hl, h2⟩
def IsLst {α : Type} (R : α → V → Hp → Prop) (l : List α) (v : V) (H : Hp) : Prop := ∃ p vs, v = .ref p ∧ H p = some (.lst vs) ∧ Each R l vs H
theorem IsLst.mono {α : Type} {R : α → V → Hp → Prop} {l : List α} {v : V} {H H' : Hp} (m : ∀ a v, R a v H → R a v H') (e : Ex H H') (h : IsLst R l v H) : IsLst R l v H' := by
  obtain ⟨p, vs, rfl, h1, h2⟩ := h
  exact ⟨p, vs, rfl, e _ _ h1, h2.mono m⟩
/-! ### stands -/
def standV (x : Stand) : List V := [.int (x.p : Int), .int (x.s : Int), .int (b2 x.locked)]
def sk (x : Stand) : List Key := [.inl (x.p : Int), .inl (x.s : Int), .inl (b2 x.locked)]
theorem sk_map (x : Stand) : (sk x).map kV = standV x := rfl
def IsStand (x : Stand) (v : V) (H : Hp) : Prop := ∃ p, v = .ref p ∧ H p = some (.tup (standV x))
theorem IsStand.mono {x : Stand} {v : V} {H H' : Hp} (e : Ex H H') (h : IsStand x v H) : IsStand x v H' := by
  obtain ⟨p, rfl, h1⟩ := h
  exact ⟨p, rfl, e _ _ h1⟩
theorem b2_inj {a b : Bool} (h : b2 a = b2 b) : a = b := by
  cases a <;> cases b <;> first | rfl | (exfalso; exact absurd h (by decide))
theorem sk_inj {x y : Stand} (h : sk x = sk y) : x = y := by
  obtain ⟨p, s, l⟩ := x
  obtain ⟨p', s', l'⟩ := y
  simp only [sk, List.cons.injEq, Sum.inl.injEq, and_true] at h
  obtain ⟨h1, h2, h3⟩ := h
  have e1 : p = p' := by omega
  have e2 : s = s' := by omega
  have e3 := b2_inj h3
  subst e1 e2 e3
  rfl
/-! ### acts -/
def actF (pp pw : Addr) (a : Kp379.Act) : List (Str × V) := [("pays", .ref pp), ("weights", .ref pw), ("turn", .int (a.turn : Int)), ("locks", .int (b2 a.lock))]
theorem actF_pays {pp pw : Addr} {a : Kp379.Act} : (actF pp pw a).lookup ("pays" : Str) = some (.ref pp) := lk_here
theorem actF_weights {pp pw : Addr} {a : Kp379.Act} : (actF pp pw a).lookup ("weights" : Str) = some (.ref pw) := (lk_past (by decide +kernel)).trans lk_here
theorem actF_turn {pp pw : Addr} {a : Kp379.Act} : (actF pp pw a).lookup ("turn" : Str) = some (.int (a.turn : Int)) := (lk_past (by decide +kernel)).trans ((lk_past (by decide +kernel)).trans lk_here)
theorem actF_locks {pp pw : Addr} {a : Kp379.Act} : (actF pp pw a).lookup ("locks" : Str) = some (.int (b2 a.lock)) := (lk_past (by decide +kernel)).trans ((lk_past (by decide +kernel)).trans ((lk_past (by decide +kernel)).trans lk_here))
def natV (l : List Nat) : List V := l.map fun (n : Nat) => V.int (n : Int)
def IsAct (C : Addr) (a : Kp379.Act) (v : V) (H : Hp) : Prop := ∃ p dx pp pw, v = .ref p ∧ H p = some (.ins C dx (actF pp pw a)) ∧ H pp = some (.lst (a.pays.map V.int)) ∧ H pw = some (.lst (natV a.to))
theorem IsAct.mono {C : Addr} {a : Kp379.Act} {v : V} {H H' : Hp} (e : Ex H H') (h : IsAct C a v H) : IsAct C a v H' := by
  obtain ⟨p, dx, pp, pw, rfl, h1, h2, h3⟩ := h
  exact ⟨p, dx, pp, pw, rfl, e _ _ h1, e _ _ h2, e _ _ h3⟩
/-- an act as it may be told -/
structure WfAct (w : Kp379.World) (a : Kp379.Act) : Prop where
  pl : a.pays.length = w.v
  pb : ∀ z ∈ a.pays, -9 ≤ z ∧ z ≤ 9
  wl : a.to.length = w.n
  wb : ∀ z ∈ a.to, z ≤ 9
  wt : 0 < Kp346.total a.to
  tn : a.turn ≤ w.v
structure WfW (w : Kp379.World) : Prop where
  n2 : 2 ≤ w.n
  n4 : w.n ≤ 4
  v1 : 1 ≤ w.v
  v3 : w.v ≤ 3
  al : w.acts.length = w.n
  a3 : ∀ l ∈ w.acts, l.length ≤ 3
  aw : ∀ l ∈ w.acts, ∀ a ∈ l, WfAct w a
/-- a stand that there is -/
def OkS (w : Kp379.World) (x : Stand) : Prop := x.p < w.n ∧ x.s < w.v
theorem behind_ok {w : Kp379.World} {x : Stand} {a : Kp379.Act} {q : Nat} (h : OkS w x) (ha : WfAct w a) (hq : q < w.n) : OkS w (Kp379.behind x a q) := by
  refine ⟨hq, ?_⟩
  show (if (x.locked || a.turn == 0) = true then x.s else a.turn - 1) < w.v
  have h1 := h.2
  have h2 := ha.tn
  split
  · exact h1
  · rename_i c
    have : a.turn ≠ 0 := by
      intro z
      rw [z] at c
      simp at c
    omega
/-! ### tables of worths -/
def rowAtS (w : Kp379.World) (r : Kp379.Row) (x : Stand) : List Fr := (ent w r x).2
/-- a table: for each stand a list of fractions -/
def IsTabF (w : Kp379.World) (G : Stand → List Fr) (v : V) (H : Hp) : Prop := ∃ p kvs, v = .ref p ∧ H p = some (.dT kvs) ∧ ∀ x, OkS w x → ∃ u, valV kvs (sk x) = some u ∧ IsLst IsFr (G x) u H
theorem IsTabF.mono {w : Kp379.World} {G : Stand → List Fr} {v : V} {H H' : Hp} (e : Ex H H') (h : IsTabF w G v H) : IsTabF w G v H' := by
  obtain ⟨p, kvs, rfl, h1, h2⟩ := h
  refine ⟨p, kvs, rfl, e _ _ h1, fun x hx => ?_⟩
  obtain ⟨u, h3, h4⟩ := h2 x hx
  exact ⟨u, h3, h4.mono (fun a v h => h.mono e) e⟩
abbrev IsTab (w : Kp379.World) (r : Kp379.Row) (v : V) (H : Hp) : Prop := IsTabF w (rowAtS w r) v H
/-- all that a table holds is told, and has at most so many bits -/
def TabOk (w : Kp379.World) (B : Nat) (G : Stand → List Fr) : Prop := ∀ x, OkS w x → (G x).length = w.v ∧ ∀ u, u < w.v → Bits B ((G x).getD u (0, 1))
abbrev RowOk (w : Kp379.World) (B : Nat) (r : Kp379.Row) : Prop := TabOk w B (rowAtS w r)
/-- in the mean, behind an act -/
def meanF (w : Kp379.World) (G : Stand → List Fr) (x : Stand) (a : Kp379.Act) (u : Nat) : Fr := Kp379.mean w a fun q => (G (Kp379.behind x a q)).getD u (0, 1)
end CI
namespace CI
open PySem PySem.Spec PyProof.Rows L2
open Evl (Ex fresh_back)
open Kp340 (Fr fr)
open Kp379 (Stand)
section
variable {P : Program} {w : World} {K : PySem.W.Frag} {mg : Str → Option Value} {base : Heap} {n : Nm}
/-! ### stand_behind -/
def sp_stand_behind (CA : Addr) : Sp := fun vs H Q _ => ∃ (va vx : V) (q : Nat) (a : Kp379.Act) (x : Stand), vs = [va, vx, .int (q : Int)] ∧ IsAct CA a va H ∧ IsStand x vx H ∧ RetR (IsStand (Kp379.behind x a q)) H Q
theorem ok_stand_behind (D : Ds n K mg) : FnOk P w K mg base CX0 1 n.f_stand_behind n.fd_stand_behind P_stand_behind (sp_stand_behind n.C_Act) := by
  refine D.d_stand_behind.F.ok sc_stand_behind (fun vs H Q E h => ?_) (fun cdv A outer s H vs Q E hr h => ?_)
  · obtain ⟨va, vx, q, a, x, rfl, _⟩ := h
    rfl
  · obtain ⟨va, vx, q, a, x, rfl, ⟨p, dx, pp, pw, rfl, hp, hpp, hpw⟩, ⟨t, rfl, ht⟩, k⟩ := h
    refine ⟨_, (pss_cons (ps_set (i := 3) sc_stand_behind.nd rfl (Or.inl rfl) (pe_ix ix_tup (pv 1) pe_int (fun _ _ => rfl)))
      (pss_cons (ps_if (PW.pt (pw_and (pt_cmpR op_ne (pe_fld (pv 0) rfl) pe_int (nomark _)) (pw_and1 (pt_cmpR op_eq (pe_ix ix_tup (pv 1) pe_int (fun _ _ => rfl)) pe_int (nomark _)))))
        (pss_one (ps_set (i := 3) sc_stand_behind.nd rfl (Or.inl rfl) (pe_op op_sub (pe_fld (pv 0) rfl) pe_int)))
        pss_nil)
      (pss_one (ps_ret (pe_tup (pa_cons (pv 2) (pa_cons (pv 3) (pa_cons (pe_callB (call_max2 rfl) (by rfl) D.n_max (by decide +kernel) (pa_cons (pe_ix ix_tup (pv 1) pe_int (fun _ _ => rfl)) (pa_cons (pe_fld (pv 0) rfl) pa_nil))) pa_nil)))))))), ?_⟩
    -- what is left to do once it is known who one is
    have last : ∀ who : Int, who = ((Kp379.behind x a q).s : Int) → tRet (tTup (tCons (tVar 2) (tCons (tVar 3) (tCons (tCB (fun xs H Q => ∃ i j, xs = [.int i, .int j] ∧ Q (.int (if j > i then j else i)) H) (tCons (tOp (rIxT K) (tVar 1) (tC (.int 2))) (tCons (tFld K (tVar 0) "locks") tNil))) tNil)))) { nx := fun _ H' => Q .non H', rt := Q } [some (.ref p), some (.ref t), some (.int (q : Int)), some (.int who)] H := by
      intro who hw
      refine ⟨_, rfl, _, rfl, _, rfl, t, _, _, _, rfl, rfl, sqT ht, rfl, _, rfl, p, n.C_Act, dx, _, _, rfl, hp, D.c_Act.cl, D.Act_locks, actF_locks, _, _, rfl, (by show 3 ≤ sizeLine; decide), fun p2 hp2 => ?_⟩
      refine k.go (Evl.Ex.new hp2) ⟨p2, rfl, ?_⟩
      have e : (if b2 a.lock > b2 x.locked then b2 a.lock else b2 x.locked) = b2 (Kp379.behind x a q).locked := by
        show _ = b2 (x.locked || a.lock)
        cases x.locked <;> cases a.lock <;> rfl
      rw [e, hw]
      exact upd_same
    refine ⟨_, rfl, t, _, _, _, rfl, rfl, sqT ht, rfl, ?_⟩
    refine ⟨_, rfl, p, n.C_Act, dx, _, _, rfl, hp, D.c_Act.cl, D.Act_turn, actF_turn, rfl, _, rfl, ?_⟩
    by_cases c : a.turn = 0
    · refine if_f (by rw [c]; rfl) ?_
      refine if_f rfl ?_
      refine last _ ?_
      show _ = ((if (x.locked || a.turn == 0) = true then x.s else a.turn - 1 : Nat) : Int)
      rw [if_pos (by rw [c]; simp)]
    · refine if_t (by simp; omega) ?_
      refine ⟨_, rfl, t, _, _, _, rfl, rfl, sqT ht, rfl, rfl, _, rfl, ?_⟩
      cases hl : x.locked with
      | true =>
        refine if_f (by rfl) ?_
        refine last _ ?_
        show _ = ((if (x.locked || a.turn == 0) = true then x.s else a.turn - 1 : Nat) : Int)
        rw [if_pos (by rw [hl]; rfl)]
      | false =>
        refine if_t (by rfl) ?_
        refine ⟨_, rfl, p, n.C_Act, dx, _, _, rfl, hp, D.c_Act.cl, D.Act_turn, actF_turn, _, _, rfl, rfl, ?_⟩
        refine last _ ?_
        show _ = ((if (x.locked || a.turn == 0) = true then x.s else a.turn - 1 : Nat) : Int)
        rw [if_neg (by rw [hl]; simp; exact c)]
        omega
/-! ### mean_behind -/
def sp_mean_behind (CA : Addr) : Sp := fun vs H Q _ => ∃ (va vx vt : V) (u : Nat) (wd : Kp379.World) (a : Kp379.Act) (x : Stand) (G : Stand → List Fr) (B : Nat), vs = [va, vx, vt, .int (u : Int)] ∧ IsAct CA a va H ∧ IsStand x vx H ∧ IsTabF wd G vt H ∧
  wd.n ≤ 4 ∧ WfAct wd a ∧ OkS wd x ∧ u < wd.v ∧ TabOk wd B G ∧ B ≤ 900 ∧ RetR (IsFr (meanF wd G x a u)) H Q
theorem up9k {i : Int} {B : Nat} (h : i.natAbs < 2 ^ (4 * B + 10)) (l : B ≤ 900) : i.natAbs < 2 ^ 9000 := Nat.lt_of_lt_of_le h (Nat.pow_le_pow_right (by omega) (by omega))
theorem natV_get {l : List Nat} {i : Nat} {v : V} (h : (natV l)[i]? = some v) : i < l.length ∧ v = .int ((l.getD i 0 : Nat) : Int) := by
  unfold natV at h
  rw [List.getElem?_map] at h
  cases e : l[i]? with
  | none =>
    rw [e] at h
    cases h
  | some z =>
    rw [e] at h
    refine ⟨(List.getElem?_eq_some_iff.mp e).1, ?_⟩
    rw [List.getD_eq_getElem?_getD, e]
    exact (Option.some.inj h).symm
theorem natV_map (l : List Nat) : natV l = (l.map fun (n : Nat) => (n : Int)).map V.int := by
  unfold natV
  rw [List.map_map]
  rfl
theorem natV_sum (l : List Nat) : ((l.map fun (n : Nat) => (n : Int)).sum) = ((Kp346.total l : Nat) : Int) := by
  induction l with
  | nil => rfl
  | cons x r ih =>
    rw [List.map_cons, List.sum_cons, ih, total_cons]
    omega
theorem mean_bits {wd : Kp379.World} {a : Kp379.Act} {f : Nat → Fr} {B : Nat} (hn : wd.n ≤ 4) (wa : WfAct wd a) (fb : ∀ q, q < wd.n → Bits B (f q)) :
    (acc a.to f wd.n).2.natAbs < 2 ^ (4 * B + 10) ∧ (acc a.to f wd.n).1.natAbs < 2 ^ (4 * B + 10) ∧ Bits (4 * B + 10) (Kp379.mean wd a f) ∧ 0 < (acc a.to f wd.n).2 * ((Kp346.total a.to : Nat) : Int) ∧ ((acc a.to f wd.n).2 * ((Kp346.total a.to : Nat) : Int)).natAbs < 2 ^ (4 * B + 10) ∧ Kp346.total a.to ≤ 36 := by
  have w9 : ∀ q, a.to.getD q 0 ≤ 9 := getD_le wa.wb
  have t36 : Kp346.total a.to ≤ 36 := by
    have h1 := total_le (k := 9) wa.wb
    have h2 := wa.wl
    omega
  obtain ⟨h1, h2, h3, h4, h5, h6⟩ := bring_bits (n := wd.n) (B := B) (f := f) (pay := 0) hn w9 (by decide) wa.wt t36 fb
  rw [Int.zero_mul, Int.zero_add, mean_is wa.wt fun q hq => (fb q hq).2.2] at h4
  exact ⟨h1, h2, h4, h5, h6, t36⟩
theorem ok_mean_behind (D : Ds n K mg) : FnOk P w K mg base CX0 3 n.f_mean_behind n.fd_mean_behind P_mean_behind (sp_mean_behind n.C_Act) := by
  have G_lowest := ok_lowest (P := P) (w := w) (base := base) D
  have G_stand_behind := ok_stand_behind (P := P) (w := w) (base := base) D
  refine D.d_mean_behind.F.ok sc_mean_behind (fun vs H Q E h => ?_) (fun cdv A outer s H vs Q E hr h => ?_)
  · obtain ⟨va, vx, vt, u, wd, a, x, G, B, rfl, _⟩ := h
    rfl
  · obtain ⟨va, vx, vt, u, wd, a, x, G, B, rfl, hA, hX, hT, hn, wa, ox, hu, ro, hB, k⟩ := h
    refine ⟨_, (pss_cons (ps_set (i := 4) sc_mean_behind.nd rfl (Or.inl rfl) pe_int)
      (pss_cons (ps_set (i := 5) sc_mean_behind.nd rfl (Or.inl rfl) pe_int)
      (pss_cons (ps_for PassesOwn.never rfl (pi_enum (by rfl) D.n_enumerate (pa_cons (pe_fld (pv 0) rfl) pa_nil)) (pg_tup rfl (pgs_cons (pg_name (i := 6) sc_mean_behind.nd rfl (Or.inl rfl)) (pgs_cons (pg_name (i := 7) sc_mean_behind.nd rfl (Or.inl rfl)) pgs_nil)))
        (pss_cons (ps_set (i := 8) sc_mean_behind.nd rfl (Or.inl rfl) (pe_ix ix_list (pe_dget (hu_of hr) (pv 2) (pe_call G_stand_behind (hr.mono (by decide)) rfl D.d_stand_behind.g D.d_stand_behind.F.kp D.d_stand_behind.b .nil pass0 (pa_cons (pv 0) (pa_cons (pv 1) (pa_cons (pv 6) pa_nil)))) (fun _ _ => rfl)) (pv 3) (fun _ _ => rfl)))
        (pss_cons (ps_set (i := 4) sc_mean_behind.nd rfl (Or.inl rfl) (pe_op op_add (pe_op op_mulW (pv 4) (pe_ix ix_tup (pv 8) pe_int (fun _ _ => rfl))) (pe_op op_mulW (pe_op op_mulW (pv 7) (pe_ix ix_tup (pv 8) pe_int (fun _ _ => rfl))) (pv 5))))
        (pss_one (ps_set (i := 5) sc_mean_behind.nd rfl (Or.inl rfl) (pe_op op_mulW (pv 5) (pe_ix ix_tup (pv 8) pe_int (fun _ _ => rfl))))))))
      (pss_one (ps_ret (pe_call G_lowest (hr.mono (by decide)) rfl D.d_lowest.g D.d_lowest.F.kp D.d_lowest.b .nil pass0 (pa_cons (pv 4) (pa_cons (pe_op op_mulW (pv 5) (pe_callB (cr_sum rfl) (by rfl) D.n_sum (by decide +kernel) (pa_cons (pe_fld (pv 0) rfl) pa_nil))) pa_nil)))))))), ?_⟩
    have hA' := hA
    have hX' := hX
    have hT' := hT
    obtain ⟨p, dx, pp, pw, rfl, hp, hpp, hpw⟩ := hA'
    obtain ⟨t, rfl, ht⟩ := hX'
    obtain ⟨pt, kvs, rfl, hpt, hrow⟩ := hT'
    let f : Nat → Fr := fun q => (G (Kp379.behind x a q)).getD u (0, 1)
    have fb : ∀ q, q < wd.n → Bits B (f q) := fun q hq => (ro _ (behind_ok ox wa hq)).2 u hu
    have w9 : ∀ q, a.to.getD q 0 ≤ 9 := getD_le wa.wb
    have nl : (natV a.to).length = wd.n := by unfold natV; rw [List.length_map]; exact wa.wl
    have t36 : Kp346.total a.to ≤ 36 := by
      have h1 := total_le (k := 9) wa.wb
      have h2 := wa.wl
      omega
    refine ⟨_, rfl, p, n.C_Act, dx, _, _, rfl, hp, D.c_Act.cl, D.Act_weights, actF_weights, pw, natV a.to, rfl, sqL hpw, for_it walk_enum (fun i σ H' => Ex H H' ∧ ∃ o6 o7 o8 : Option V, σ = [some (.ref p), some (.ref t), some (.ref pt), some (.int (u : Int)), some (.int (acc a.to f i).1), some (.int (acc a.to f i).2), o6, o7, o8])
      ⟨Evl.Ex.refl _, none, none, none, rfl⟩ (fun i σ H' _ h => sqL (h.1 _ _ hpw)) ?_ ?_⟩
    · rintro i v σ H' H'' hi ⟨e1, o6, o7, o8, rfl⟩ ⟨Tp, y1, y2, rfl, hTp, rfl, e3, e4⟩
      obtain rfl : V.int (i : Int) = y1 := Option.some.inj e3
      obtain ⟨hil, rfl⟩ := natV_get e4
      have hin : i < wd.n := by omega
      have e2 : Ex H (upd H' Tp (.tup [.int (i : Int), .int ((a.to.getD i 0 : Nat) : Int)])) := e1.trans (Evl.Ex.new hTp)
      refine ⟨Tp, _, rfl, sqT upd_same, rfl, _, _, rfl, _, _, rfl, rfl, ?_⟩
      refine ⟨_, rfl, _, rfl, _, rfl, _, rfl, _, _, i, a, x, rfl, hA.mono e2, hX.mono e2, fun v H2 e5 hv => ?_⟩
      obtain ⟨b, rfl, hb⟩ := hv
      obtain ⟨ul, hul, pl, vl, rfl, hpl, hvl⟩ := hrow _ (behind_ok ox wa hin)
      have e6 : Ex H H2 := e2.trans e5
      have hlen := (ro _ (behind_ok ox wa hin)).1
      have hget : (G (Kp379.behind x a i))[u]? = some (f i) := by
        show _ = some ((G (Kp379.behind x a i)).getD u (0, 1))
        rw [List.getD_eq_getElem?_getD, List.getElem?_eq_getElem (by omega)]
        rfl
      obtain ⟨vf, hvf, pf, rfl, hpf⟩ := hvl.2 u _ hget
      have hpf2 := e6 _ _ hpf
      refine ⟨pt, _, rfl, by rw [← hul]; exact DGet.t (e6 _ _ hpt) hb, _, rfl, pl, _, _, _, rfl, rfl, sqL (e6 _ _ hpl), atI_nat hvf, ?_⟩
      obtain ⟨m1, m2⟩ := acc_small (f := f) (n := i) w9 fun q hq => fb q (by omega)
      have bi := fb i hin
      have up : 2 ^ (i * B) ≤ 2 ^ 8000 := Nat.pow_le_pow_right (by omega) (Nat.le_trans (Nat.mul_le_mul (show i ≤ 4 by omega) hB) (by omega))
      have p9 : 2 ^ 9000 = 2 ^ 1000 * 2 ^ 8000 := by rw [← Nat.pow_add]
      have p8 : 0 < 2 ^ 8000 := Nat.pow_pos (by omega)
      have p1 : 1024 ≤ 2 ^ 1000 := Nat.le_trans (show 1024 ≤ 2 ^ 10 by decide) (Nat.pow_le_pow_right (by omega) (by omega))
      have p7 : 1024 * 2 ^ 8000 ≤ 2 ^ 1000 * 2 ^ 8000 := Nat.mul_le_mul_right _ p1
      have c5 : (acc a.to f i).2.natAbs < 2 ^ 9000 := by omega
      have c4 : (acc a.to f i).1.natAbs < 2 ^ 9000 := by
        have : 9 * i * 2 ^ (i * B) ≤ 36 * 2 ^ 8000 := Nat.mul_le_mul (by omega) up
        omega
      have cB := (bi.up (show B ≤ 8000 by omega))
      have cn : (f i).1.natAbs < 2 ^ 9000 := by have := cB.1; omega
      have cd : (f i).2.natAbs < 2 ^ 9000 := by have := cB.2.1; omega
      have cw : (((a.to.getD i 0 : Nat) : Int)).natAbs < 2 ^ 9000 := by
        have := w9 i
        rw [Int.natAbs_natCast]
        omega
      have cwn : (((a.to.getD i 0 : Nat) : Int) * (f i).1).natAbs < 2 ^ 9000 := by
        rw [Int.natAbs_mul, Int.natAbs_natCast]
        have h1 := cB.1
        have : a.to.getD i 0 * (f i).1.natAbs ≤ 9 * 2 ^ 8000 := Nat.mul_le_mul (w9 i) (by omega)
        omega
      refine ⟨_, rfl, _, rfl, pf, _, _, _, rfl, rfl, sqT hpf2, rfl, _, _, rfl, rfl, mulW c4 cd, _, rfl, _, rfl, pf, _, _, _, rfl, rfl, sqT hpf2, rfl, _, _, rfl, rfl, mulW cw cn, _, rfl, _, _, rfl, rfl, mulW cwn c5, _, _, rfl, rfl, ?_⟩
      refine ⟨_, rfl, _, rfl, pf, _, _, _, rfl, rfl, sqT hpf2, rfl, _, _, rfl, rfl, mulW c5 cd, ?_⟩
      exact ⟨e6, _, _, _, rfl⟩
    · rintro σ H' ⟨e1, o6, o7, o8, rfl⟩
      rw [nl]
      obtain ⟨h1, h2, h4, h5, h6, _⟩ := mean_bits (f := f) hn wa fb
      have ct : (((Kp346.total a.to : Nat) : Int)).natAbs < 2 ^ (4 * B + 10) := by
        rw [Int.natAbs_natCast]
        have : 2 ^ 10 ≤ 2 ^ (4 * B + 10) := Nat.pow_le_pow_right (by omega) (by omega)
        omega
      refine ⟨_, rfl, _, rfl, _, rfl, p, n.C_Act, dx, _, _, rfl, e1 _ _ hp, D.c_Act.cl, D.Act_weights, actF_weights, pw, a.to.map (fun (n : Nat) => (n : Int)), rfl, ?_, ?_⟩
      · rw [← natV_map]
        exact sqL (e1 _ _ hpw)
      · rw [natV_sum]
        refine ⟨_, _, rfl, rfl, mulW (up9k h1 hB) (up9k ct hB), ?_⟩
        refine ⟨_, _, rfl, h5, up9k h6 hB, ?_⟩
        have e : fr (acc a.to f wd.n).1 ((acc a.to f wd.n).2 * ((Kp346.total a.to : Nat) : Int)) = meanF wd G x a u := mean_is wa.wt fun q hq => (fb q hq).2.2
        rw [e]
        exact k.mono e1
/-! ### brings -/
def sp_brings (CA : Addr) : Sp := fun vs H Q _ => ∃ (va vx vt : V) (u : Nat) (wd : Kp379.World) (a : Kp379.Act) (x : Stand) (r : Kp379.Row) (B : Nat), vs = [va, vx, vt, .int (u : Int)] ∧ IsAct CA a va H ∧ IsStand x vx H ∧ IsTab wd r vt H ∧
  wd.n ≤ 4 ∧ WfAct wd a ∧ OkS wd x ∧ u < wd.v ∧ RowOk wd B r ∧ B ≤ 900 ∧ RetR (IsFr (Kp379.bring wd r x a u)) H Q
theorem ok_brings (D : Ds n K mg) : FnOk P w K mg base CX0 4 n.f_brings n.fd_brings P_brings (sp_brings n.C_Act) := by
  have G_mean_behind := ok_mean_behind (P := P) (w := w) (base := base) D
  refine D.d_brings.F.ok sc_brings (fun vs H Q E h => ?_) (fun cdv A outer s H vs Q E hr h => ?_)
  · obtain ⟨va, vx, vt, u, wd, a, x, r, B, rfl, _⟩ := h
    rfl
  · obtain ⟨va, vx, vt, u, wd, a, x, r, B, rfl, hA, hX, hT, hn, wa, ox, hu, ro, hB, k⟩ := h
    refine ⟨_, (pss_cons (ps_set (i := 4) sc_brings.nd rfl (Or.inl rfl) (pe_call G_mean_behind (hr.mono (by decide)) rfl D.d_mean_behind.g D.d_mean_behind.F.kp D.d_mean_behind.b .nil pass0 (pa_cons (pv 0) (pa_cons (pv 1) (pa_cons (pv 2) (pa_cons (pv 3) pa_nil))))))
      (pss_one (ps_ret (pe_tup (pa_cons (pe_op op_add (pe_op op_mulW (pe_ix ix_list (pe_fld (pv 0) rfl) (pv 3) (fun _ _ => rfl)) (pe_ix ix_tup (pv 4) pe_int (fun _ _ => rfl))) (pe_ix ix_tup (pv 4) pe_int (fun _ _ => rfl))) (pa_cons (pe_ix ix_tup (pv 4) pe_int (fun _ _ => rfl)) pa_nil)))))), ?_⟩
    let f : Nat → Fr := fun q => (rowAtS wd r (Kp379.behind x a q)).getD u (0, 1)
    have fb : ∀ q, q < wd.n → Bits B (f q) := fun q hq => (ro _ (behind_ok ox wa hq)).2 u hu
    obtain ⟨h1, h2, h4, h5, h6, _⟩ := mean_bits (f := f) hn wa fb
    refine ⟨_, rfl, _, rfl, _, rfl, _, rfl, _, _, _, u, wd, a, x, rowAtS wd r, B, rfl, hA, hX, hT, hn, wa, ox, hu, ro, hB, fun vm H1 e1 hm => ?_⟩
    obtain ⟨pm, rfl, hpm⟩ := hm
    obtain ⟨p, dx, pp, pw, rfl, hp, hpp, hpw⟩ := hA.mono e1
    have hpay : (a.pays.map V.int)[u]? = some (V.int (a.pays.getD u 0)) := by
      rw [List.getElem?_map, List.getD_eq_getElem?_getD, List.getElem?_eq_getElem (by have := wa.pl; omega)]
      rfl
    have cp : (a.pays.getD u 0).natAbs < 2 ^ (4 * B + 10) := by
      rw [List.getD_eq_getElem?_getD, List.getElem?_eq_getElem (by have := wa.pl; omega)]
      have hul : u < a.pays.length := by have := wa.pl; omega
      have := wa.pb _ (List.getElem_mem hul)
      show (a.pays[u]).natAbs < _
      have : 2 ^ 10 ≤ 2 ^ (4 * B + 10) := Nat.pow_le_pow_right (by omega) (by omega)
      omega
    refine ⟨_, rfl, p, n.C_Act, dx, _, _, rfl, hp, D.c_Act.cl, D.Act_pays, actF_pays, _, rfl, pp, _, _, _, rfl, rfl, sqL hpp, atI_nat hpay, _, rfl, pm, _, _, _, rfl, rfl, sqT hpm, rfl, _, _, rfl, rfl, mulW (up9k cp hB) (up9k h4.2.1 hB), _, rfl, pm, _, _, _, rfl, rfl, sqT hpm, rfl, _, _, rfl, rfl, _, rfl, pm, _, _, _, rfl, rfl, sqT hpm, rfl, (by show 2 ≤ sizeLine; decide), fun q hq => ?_⟩
    refine k.go (e1.trans (Evl.Ex.new hq)) ⟨q, rfl, ?_⟩
    have e : (a.pays.getD u 0 * (meanF wd (rowAtS wd r) x a u).2 + (meanF wd (rowAtS wd r) x a u).1, (meanF wd (rowAtS wd r) x a u).2) = Kp379.bring wd r x a u := by
      have e1 : fr (acc a.to f wd.n).1 ((acc a.to f wd.n).2 * ((Kp346.total a.to : Nat) : Int)) = meanF wd (rowAtS wd r) x a u := mean_is wa.wt fun q hq => (fb q hq).2.2
      rw [← e1, pair_is h5]
      exact bring_is wa.wt fun q hq => (fb q hq).2.2
    rw [← e]
    exact upd_same
end
end CI
namespace CI
open PySem PySem.Spec PyProof.Rows L2
open Evl (Ex fresh_back)
open Kp340 (Fr fr)
open Kp379 (Stand)
/-! ### a store at a list or dict leaves tuples as they are -/
def NoTup (o : HO) : Prop := ∀ xs, o ≠ .tup xs
theorem noTup_lst {xs : List V} : NoTup (.lst xs) := fun _ h => by cases h
theorem noTup_dT {xs : List (List Key × V)} : NoTup (.dT xs) := fun _ h => by cases h
theorem IsFr.upd {x : Fr} {v : V} {H : Hp} {a : Addr} {o o' : HO} (h : IsFr x v H) (ha : H a = some o) (no : NoTup o) : IsFr x v (upd H a o') := by
  obtain ⟨p, rfl, hp⟩ := h
  refine ⟨p, rfl, ?_⟩
  rw [upd_ne (ne_of hp ha fun z => no _ z.symm)]
  exact hp
theorem IsStand.upd {x : Stand} {v : V} {H : Hp} {a : Addr} {o o' : HO} (h : IsStand x v H) (ha : H a = some o) (no : NoTup o) : IsStand x v (upd H a o') := by
  obtain ⟨p, rfl, hp⟩ := h
  refine ⟨p, rfl, ?_⟩
  rw [upd_ne (ne_of hp ha fun z => no _ z.symm)]
  exact hp
theorem lstFr_upd {l : List Fr} {v : V} {H : Hp} {a : Addr} {kvs : List (List Key × V)} {o' : HO} (h : IsLst IsFr l v H) (ha : H a = some (.dT kvs)) : IsLst IsFr l v (upd H a o') := by
  obtain ⟨p, vs, rfl, h1, h2⟩ := h
  refine ⟨p, vs, rfl, ?_, h2.mono fun x v hx => hx.upd ha noTup_dT⟩
  rw [upd_ne (ne_of h1 ha (by intro z; cases z))]
  exact h1
section
variable {P : Program} {w : World} {K : PySem.W.Frag} {mg : Str → Option Value} {base : Heap} {n : Nm}
/-! ### best_act -/
def sp_best_act (CA : Addr) : Sp := fun vs H Q _ => ∃ (va vx vt : V) (wd : Kp379.World) (as : List Kp379.Act) (x : Stand) (r : Kp379.Row) (B : Nat), vs = [va, vx, vt] ∧ IsLst (IsAct CA) as va H ∧ IsStand x vx H ∧ IsTab wd r vt H ∧
  wd.n ≤ 4 ∧ (∀ a ∈ as, WfAct wd a) ∧ as.length ≤ 1000 ∧ as ≠ [] ∧ OkS wd x ∧ RowOk wd B r ∧ B ≤ 900 ∧ (∀ b, Kp379.bestIn (as.map fun a => Kp379.bring wd r x a x.s) = some b → RetR (fun v _ => v = .int (b.1 : Int)) H Q)
theorem bring_ok {wd : Kp379.World} {a : Kp379.Act} {x : Stand} {r : Kp379.Row} {B u : Nat} (hn : wd.n ≤ 4) (wa : WfAct wd a) (ox : OkS wd x) (hu : u < wd.v) (ro : RowOk wd B r) : Bits (4 * B + 10) (Kp379.bring wd r x a u) := by
  let f : Nat → Fr := fun q => (rowAtS wd r (Kp379.behind x a q)).getD u (0, 1)
  have fb : ∀ q, q < wd.n → Bits B (f q) := fun q hq => (ro _ (behind_ok ox wa hq)).2 u hu
  have w9 : ∀ q, a.to.getD q 0 ≤ 9 := getD_le wa.wb
  have t36 : Kp346.total a.to ≤ 36 := by
    have h1 := total_le (k := 9) wa.wb
    have h2 := wa.wl
    omega
  have hp : (a.pays.getD u 0).natAbs ≤ 9 := by
    rw [List.getD_eq_getElem?_getD, List.getElem?_eq_getElem (by have := wa.pl; omega)]
    have hul : u < a.pays.length := by have := wa.pl; omega
    have := wa.pb _ (List.getElem_mem hul)
    show (a.pays[u]).natAbs ≤ 9
    omega
  obtain ⟨h1, h2, h3, h4, h5, h6⟩ := bring_bits (n := wd.n) (B := B) (f := f) (pay := a.pays.getD u 0) hn w9 hp wa.wt t36 fb
  have e : fr (a.pays.getD u 0 * ((acc a.to f wd.n).2 * ((Kp346.total a.to : Nat) : Int)) + (acc a.to f wd.n).1) ((acc a.to f wd.n).2 * ((Kp346.total a.to : Nat) : Int)) = Kp379.bring wd r x a u := bring_is wa.wt fun q hq => (fb q hq).2.2
  rw [e] at h4
  exact h4
theorem ok_best_act (D : Ds n K mg) : FnOk P w K mg base CX0 5 n.f_best_act n.fd_best_act P_best_act (sp_best_act n.C_Act) := by
  have G_brings := ok_brings (P := P) (w := w) (base := base) D
  have G_is_less := ok_is_less (P := P) (w := w) (base := base) D
  refine D.d_best_act.F.ok sc_best_act (fun vs H Q E h => ?_) (fun cdv A outer s H vs Q E hr h => ?_)
  · obtain ⟨va, vx, vt, wd, as, x, r, B, rfl, _⟩ := h
    rfl
  · obtain ⟨va, vx, vt, wd, as, x, r, B, rfl, hA, hX, hT, hn, wa, hl, hne, ox, ro, hB, k⟩ := h
    refine ⟨_, (pss_cons (ps_set (i := 3) sc_best_act.nd rfl (Or.inl rfl) pe_int)
      (pss_cons (ps_set (i := 4) sc_best_act.nd rfl (Or.inl rfl) (pe_call G_brings (hr.mono (by decide)) rfl D.d_brings.g D.d_brings.F.kp D.d_brings.b .nil pass0 (pa_cons (pe_ix ix_list (pv 0) pe_int (fun _ _ => rfl)) (pa_cons (pv 1) (pa_cons (pv 2) (pa_cons (pe_ix ix_tup (pv 1) pe_int (fun _ _ => rfl)) pa_nil))))))
      (pss_cons (ps_for PassesOwn.never rfl (pi_range2 (by rfl) D.n_range (pa_cons pe_int (pa_cons (pe_callB call_len_seq (by rfl) D.n_len PySem.boot_len (pa_cons (pv 0) pa_nil)) pa_nil))) (pg_name (i := 5) sc_best_act.nd rfl (Or.inl rfl))
        (pss_cons (ps_set (i := 6) sc_best_act.nd rfl (Or.inl rfl) (pe_call G_brings (hr.mono (by decide)) rfl D.d_brings.g D.d_brings.F.kp D.d_brings.b .nil pass0 (pa_cons (pe_ix ix_list (pv 0) (pv 5) (fun _ _ => rfl)) (pa_cons (pv 1) (pa_cons (pv 2) (pa_cons (pe_ix ix_tup (pv 1) pe_int (fun _ _ => rfl)) pa_nil))))))
        (pss_one (ps_if (pt_val (pe_call G_is_less (hr.mono (by decide)) rfl D.d_is_less.g D.d_is_less.F.kp D.d_is_less.b .nil pass0 (pa_cons (pv 4) (pa_cons (pv 6) pa_nil))))
          (pss_cons (ps_set (i := 3) sc_best_act.nd rfl (Or.inl rfl) (pv 5))
          (pss_one (ps_set (i := 4) sc_best_act.nd rfl (Or.inl rfl) (pv 6))))
          pss_nil))))
      (pss_one (ps_ret (pv 3)))))), ?_⟩
    have hA' := hA
    have hX' := hX
    obtain ⟨pa, vas, rfl, hpa, hE⟩ := hA'
    obtain ⟨t, rfl, ht⟩ := hX'
    let l : List Fr := as.map fun a => Kp379.bring wd r x a x.s
    have ll : l.length = as.length := List.length_map _
    have lp : 0 < as.length := by cases as with | nil => exact absurd rfl hne | cons _ _ => simp
    have lb : ∀ (i : Nat) (y : Fr), l[i]? = some y → Bits 9000 y := by
      intro i y h
      obtain ⟨a, ha, rfl⟩ : ∃ a, as[i]? = some a ∧ Kp379.bring wd r x a x.s = y := by
        have h' : (as.map fun a => Kp379.bring wd r x a x.s)[i]? = some y := h
        rw [List.getElem?_map] at h'
        cases e : as[i]? with
        | none => rw [e] at h'; cases h'
        | some a => rw [e] at h'; exact ⟨a, rfl, Option.some.inj h'⟩
      exact (bring_ok hn (wa a (List.mem_of_getElem? ha)) ox ox.2 ro).up (by omega)
    have get : ∀ (i : Nat), i < as.length → ∃ a va, as[i]? = some a ∧ vas[i]? = some va ∧ IsAct n.C_Act a va H ∧ l[i]? = some (Kp379.bring wd r x a x.s) := by
      intro i hi
      obtain ⟨va, h1, h2⟩ := hE.2 i as[i] (List.getElem?_eq_getElem hi)
      refine ⟨as[i], va, List.getElem?_eq_getElem hi, h1, h2, ?_⟩
      show (as.map fun a => Kp379.bring wd r x a x.s)[i]? = _
      rw [List.getElem?_map, List.getElem?_eq_getElem hi]
      rfl
    obtain ⟨a0, v0, ga0, gv0, gA0, gl0⟩ := get 0 lp
    refine ⟨_, rfl, pa, _, _, _, rfl, rfl, sqL hpa, atI_nat (j := 0) gv0, _, rfl, _, rfl, _, rfl, t, _, _, _, rfl, rfl, sqT ht, rfl, ?_⟩
    refine ⟨_, _, _, x.s, wd, a0, x, r, B, rfl, gA0, hX, hT, hn, wa a0 (List.mem_of_getElem? ga0), ox, ox.2, ro, hB, fun vm H1 e1 hm => ?_⟩
    refine ⟨_, rfl, pa, vas, rfl, Or.inl (sqL (e1 _ _ hpa)), 1, (vas.length : Int), rfl, ⟨by omega, by omega, by have := hE.1; omega, by have := hE.1; omega⟩, for_range (lo := 1) (n := ((vas.length : Int) - 1).toNat) (fun i σ H' => Ex H H' ∧ ∃ (b : Nat × Fr) (vm : V) (o5 o6 : Option V),
      Kp379.bestIn (l.take (i + 1)) = some b ∧ l[b.1]? = some b.2 ∧ IsFr b.2 vm H' ∧ σ = [some (.ref pa), some (.ref t), some vt, some (.int (b.1 : Int)), some vm, o5, o6]) ⟨e1, (0, Kp379.bring wd r x a0 x.s), vm, none, none, ?_, gl0, hm, rfl⟩ ?_ ?_⟩
    · rw [bestIn_take gl0]
      rfl
    · rintro i σ H' hi ⟨e2, b, vm, o5, o6, hb, hbl, hvm, rfl⟩
      have hi' : i + 1 < as.length := by have := hE.1; omega
      obtain ⟨a1, v1, ga1, gv1, gA1, gl1⟩ := get (i + 1) hi'
      have ei : ((1 : Int) + (i : Int)) = ((i + 1 : Nat) : Int) := by omega
      refine ⟨_, rfl, _, rfl, pa, _, _, _, rfl, rfl, sqL (e2 _ _ hpa), at_of ei gv1, _, rfl, _, rfl, _, rfl, t, _, _, _, rfl, rfl, sqT (e2 _ _ ht), rfl, ?_⟩
      refine ⟨_, _, _, x.s, wd, a1, x, r, B, rfl, gA1.mono e2, hX.mono e2, hT.mono e2, hn, wa a1 (List.mem_of_getElem? ga1), ox, ox.2, ro, hB, fun vb H1 e3 hvb => ?_⟩
      refine ⟨_, rfl, _, rfl, _, _, b.2, Kp379.bring wd r x a1 x.s, rfl, hvm.mono e3, hvb, lb _ _ hbl, lb _ _ gl1, fun vt2 H2 e4 h4 => ?_⟩
      subst h4
      refine ⟨_, rfl, ?_⟩
      have bt := bestIn_take gl1
      rw [hb] at bt
      refine if_c (fun c => ?_) (fun c => ?_)
      · refine ⟨_, rfl, _, rfl, (e2.trans e3).trans e4, (i + 1, Kp379.bring wd r x a1 x.s), vb, some (.int (1 + (i : Int))), some vb, ?_, gl1, hvb.mono e4, ?_⟩
        · rw [bt]
          show (if Kp346.ltF b.2 _ = true then _ else _) = _
          rw [if_pos c]
        · show [some (V.ref pa), some (V.ref t), some vt, some (V.int (1 + (i : Int))), some vb, _, _] = _
          rw [ei]
      · refine ⟨(e2.trans e3).trans e4, b, vm, _, _, ?_, hbl, (hvm.mono e3).mono e4, rfl⟩
        rw [bt]
        show (if Kp346.ltF b.2 _ = true then _ else _) = _
        rw [if_neg (by rw [c]; decide)]
    · rintro σ H' ⟨e2, b, vm, o5, o6, hb, hbl, hvm, rfl⟩
      refine ⟨_, rfl, ?_⟩
      have hz : ((vas.length : Int) - 1).toNat + 1 = l.length := by have := hE.1; omega
      rw [hz, List.take_length] at hb
      exact (k b hb).go e2 rfl
end
end CI
namespace CI
open PySem PySem.Spec PyProof.Rows L2
open Evl (Ex fresh_back)
open Kp340 (Fr fr)
open Kp379 (Stand)
/-- a house whose places, selves and acts are the world's -/
def HRead (n : Nm) (wd : Kp379.World) (v : V) (H : Hp) : Prop := ∃ p dx fs va, v = .ref p ∧ H p = some (.ins n.C_House dx fs) ∧ fs.lookup ("places" : Str) = some (.int (wd.n : Int)) ∧ fs.lookup ("selves" : Str) = some (.int (wd.v : Int)) ∧
  fs.lookup ("acts" : Str) = some va ∧ IsLst (IsLst (IsAct n.C_Act)) wd.acts va H
theorem HRead.mono {n : Nm} {wd : Kp379.World} {v : V} {H H' : Hp} (e : Ex H H') (h : HRead n wd v H) : HRead n wd v H' := by
  obtain ⟨p, dx, fs, va, rfl, h1, h2, h3, h4, h5⟩ := h
  exact ⟨p, dx, fs, va, rfl, e _ _ h1, h2, h3, h4, h5.mono (fun l v hl => hl.mono (fun a v ha => ha.mono e) e) e⟩
section
variable {P : Program} {w : World} {K : PySem.W.Frag} {mg : Str → Option Value} {base : Heap} {n : Nm}
theorem range_map_succ {α : Type} (g : Nat → α) (i : Nat) : (List.range (i + 1)).map g = (List.range i).map g ++ [g i] := by
  rw [List.range_succ, List.map_append]
  rfl
/-! ### nothing_brought -/
def sp_nothing_brought (n : Nm) : Sp := fun vs H Q _ => ∃ (v : V) (wd : Kp379.World), vs = [v] ∧ HRead n wd v H ∧ wd.v ≤ 3 ∧ RetR (IsLst IsFr (none0 wd)) H Q
theorem ok_nothing_brought (D : Ds n K mg) : FnOk P w K mg base CX0 1 n.f_nothing_brought n.fd_nothing_brought P_nothing_brought (sp_nothing_brought n) := by
  refine D.d_nothing_brought.F.ok sc_nothing_brought (fun vs H Q E h => ?_) (fun cdv A outer s H vs Q E hr h => ?_)
  · obtain ⟨v, wd, rfl, _⟩ := h
    rfl
  · obtain ⟨v, wd, rfl, hH, h3, k⟩ := h
    refine ⟨_, (pss_one (ps_ret (pe_lc (own := [("who", 1)]) (g := gName 1) (tt := tYes) rfl sc_nothing_brought.nd (pi_range1 (by rfl) D.n_range (pa_cons (pe_fld (pv 0) rfl) pa_nil)) (blkOk_by (own := [("who", 1)]) (N := N_nothing_brought) (sc := defScope s_nothing_brought) (by decide +kernel)) (fun _ _ _ _ _ => (pg_name (i := 1) sc_nothing_brought.nd rfl (Or.inl rfl))) (fun _ _ _ _ _ => pts_nil) (fun _ _ _ _ _ => (pe_tup (pa_cons pe_int (pa_cons pe_int pa_nil))))))), ?_⟩
    obtain ⟨p, dx, fs, va, rfl, hp, f1, f2, f3, f4⟩ := hH
    refine ⟨_, rfl, p, n.C_House, dx, _, _, rfl, hp, D.c_House.cl, D.House_selves, f2, (wd.v : Int), rfl, by omega, by omega, fun Dl hD => ?_⟩
    have nn : ((wd.v : Int)).toNat = wd.v := by omega
    refine lc_range (lo := 0) (n := ((wd.v : Int)).toNat) (fun i H' => Ex H H' ∧ ∃ vs, H' Dl = some (.lst vs) ∧ Each IsFr ((List.range i).map fun _ => ((0 : Int), (1 : Int))) vs H') ⟨Evl.Ex.new hD, [], upd_same, Each.nil⟩ ?_ ?_
    · rintro i H' hi ⟨e1, vs, h1, h2⟩
      refine ⟨rfl, ?_⟩
      refine ⟨(by show 2 ≤ sizeLine; decide), fun q hq => ?_⟩
      have n1 : Dl ≠ q := ne_of_none h1 hq
      have e2 : Ex H' (upd H' q (.tup [.int 0, .int 1])) := Evl.Ex.new hq
      refine ⟨vs, by rw [upd_ne n1]; exact h1, small1000 (by rw [h2.1]; simp; omega), Evl.Ex.mut (e1.trans e2) hD, vs ++ [.ref q], upd_same, ?_⟩
      have h1' : (upd H' q (.tup [.int 0, .int 1])) Dl = some (.lst vs) := by rw [upd_ne n1]; exact h1
      rw [range_map_succ]
      refine Each.snoc (h2.mono fun x v hx => (hx.mono e2).upd h1' noTup_lst) ?_
      exact IsFr.upd (x := ((0 : Int), (1 : Int))) ⟨q, rfl, upd_same⟩ h1' noTup_lst
    · rintro H' ⟨e1, vs, h1, h2⟩
      refine k.go e1 ⟨Dl, vs, rfl, h1, ?_⟩
      rw [nn] at h2
      exact h2
theorem WfW.at_ {wd : Kp379.World} (h : WfW wd) {p : Nat} (hp : p < wd.n) : wd.acts[p]? = some (Kp379.actsAt wd p) ∧ (Kp379.actsAt wd p).length ≤ 3 ∧ ∀ a ∈ Kp379.actsAt wd p, WfAct wd a := by
  have hl : p < wd.acts.length := by rw [h.al]; exact hp
  have e : Kp379.actsAt wd p = wd.acts[p] := by
    unfold Kp379.actsAt
    rw [List.getD_eq_getElem?_getD, List.getElem?_eq_getElem hl]
    rfl
  rw [e]
  exact ⟨List.getElem?_eq_getElem hl, h.a3 _ (List.getElem_mem hl), h.aw _ (List.getElem_mem hl)⟩
/-! ### act_done -/
theorem step1_none {wd : Kp379.World} {r : Kp379.Row} {x : Stand} (h : Kp379.actsAt wd x.p = []) : step1 wd r x = (none, none0 wd) := by
  unfold step1
  rw [h]
  rfl
theorem step1_some {wd : Kp379.World} {r : Kp379.Row} {x : Stand} (h : Kp379.actsAt wd x.p ≠ []) : ∃ b, Kp379.bestIn ((Kp379.actsAt wd x.p).map fun a => Kp379.bring wd r x a x.s) = some b ∧ b.1 < (Kp379.actsAt wd x.p).length ∧ (Kp379.actsAt wd x.p)[b.1]? = some (Kp379.actAt wd x.p b.1) ∧
    step1 wd r x = (some b.1, (List.range wd.v).map fun u => Kp379.bring wd r x (Kp379.actAt wd x.p b.1) u) := by
  obtain ⟨b, hb, hlt, _⟩ := bestIn_some ((Kp379.actsAt wd x.p).map fun a => Kp379.bring wd r x a x.s) (by simpa using h)
  rw [List.length_map] at hlt
  refine ⟨b, hb, hlt, ?_, ?_⟩
  · unfold Kp379.actAt
    rw [List.getD_eq_getElem?_getD, List.getElem?_eq_getElem hlt]
    rfl
  · unfold step1
    rw [hb]
/-- the act that is done, or None -/
def DoneR (n : Nm) (wd : Kp379.World) (r : Kp379.Row) (x : Stand) (v : V) (H : Hp) : Prop := (Kp379.actsAt wd x.p = [] ∧ v = .non ∧ (step1 wd r x).1 = none) ∨ ∃ a, (step1 wd r x).1 = some a ∧ IsAct n.C_Act (Kp379.actAt wd x.p a) v H ∧ WfAct wd (Kp379.actAt wd x.p a)
def sp_act_done (n : Nm) : Sp := fun vs H Q _ => ∃ (v vx vt : V) (wd : Kp379.World) (x : Stand) (r : Kp379.Row) (B : Nat), vs = [v, vx, vt] ∧ HRead n wd v H ∧ IsStand x vx H ∧ IsTab wd r vt H ∧ WfW wd ∧ OkS wd x ∧ RowOk wd B r ∧ B ≤ 900 ∧ RetR (DoneR n wd r x) H Q
theorem ok_act_done (D : Ds n K mg) : FnOk P w K mg base CX0 6 n.f_act_done n.fd_act_done P_act_done (sp_act_done n) := by
  have G_best_act := ok_best_act (P := P) (w := w) (base := base) D
  refine D.d_act_done.F.ok sc_act_done (fun vs H Q E h => ?_) (fun cdv A outer s H vs Q E hr h => ?_)
  · obtain ⟨v, vx, vt, wd, x, r, B, rfl, _⟩ := h
    rfl
  · obtain ⟨v, vx, vt, wd, x, r, B, rfl, hH, hX, hT, ww, ox, ro, hB, k⟩ := h
    refine ⟨_, (pss_cons (ps_set (i := 3) sc_act_done.nd rfl (Or.inl rfl) (pe_ix ix_list (pe_fld (pv 0) rfl) (pe_ix ix_tup (pv 1) pe_int (fun _ _ => rfl)) (fun _ _ => rfl)))
      (pss_cons (ps_if (pt_cmpR op_eq (pe_callB call_len_seq (by rfl) D.n_len PySem.boot_len (pa_cons (pv 3) pa_nil)) pe_int (nomark _))
        (pss_one (ps_ret pe_non))
        pss_nil)
      (pss_one (ps_ret (pe_ix ix_list (pv 3) (pe_call G_best_act (hr.mono (by decide)) rfl D.d_best_act.g D.d_best_act.F.kp D.d_best_act.b .nil pass0 (pa_cons (pv 3) (pa_cons (pv 1) (pa_cons (pv 2) pa_nil)))) (fun _ _ => rfl)))))), ?_⟩
    have hH' := hH
    have hX' := hX
    obtain ⟨p, dx, fs, va, rfl, hp, f1, f2, f3, pa, vas, rfl, hpa, hE⟩ := hH'
    obtain ⟨t, rfl, ht⟩ := hX'
    obtain ⟨g1, g2, g3⟩ := ww.at_ ox.1
    obtain ⟨vl, hvl, pl, vls, rfl, hpl, hEl⟩ := hE.2 _ _ g1
    have hL : IsLst (IsAct n.C_Act) (Kp379.actsAt wd x.p) (.ref pl) H := ⟨pl, vls, rfl, hpl, hEl⟩
    refine ⟨_, rfl, p, n.C_House, dx, _, _, rfl, hp, D.c_House.cl, D.House_acts, f3, _, rfl, t, _, _, _, rfl, rfl, sqT ht, rfl, pa, _, _, _, rfl, rfl, sqL hpa, atI_nat hvl, ?_⟩
    refine ⟨_, rfl, pl, vls, rfl, Or.inl (sqL hpl), rfl, _, rfl, ?_⟩
    by_cases c : Kp379.actsAt wd x.p = []
    · have hz : vls.length = 0 := by rw [hEl.1, c]; rfl
      refine if_t (by rw [hz]; rfl) ?_
      exact k.go (Evl.Ex.refl _) (Or.inl ⟨c, rfl, by rw [step1_none c]⟩)
    · have hz : vls.length ≠ 0 := by
        rw [hEl.1]
        intro z
        exact c (List.length_eq_zero_iff.mp z)
      refine if_f (by simp; exact fun z => hz (by rw [z]; rfl)) ?_
      refine ⟨_, rfl, _, rfl, _, rfl, _, rfl, _, _, _, wd, _, x, r, B, rfl, hL, hX, hT, ww.n4, g3, by omega, c, ox, ro, hB, fun b hb => ?_⟩
      obtain ⟨b', hb', hlt, ga, e2⟩ := step1_some (r := r) c
      have hbb : b' = b := Option.some.inj (hb'.symm.trans hb)
      subst hbb
      obtain ⟨vd, hvd, hAd⟩ := hEl.2 _ _ ga
      have wa := g3 _ (List.mem_of_getElem? ga)
      intro vb H1 e1 hvb
      subst hvb
      refine ⟨pl, _, _, _, rfl, rfl, sqL (e1 _ _ hpl), atI_nat hvd, ?_⟩
      exact k.go e1 (Or.inr ⟨b'.1, by rw [e2], hAd.mono e1, wa⟩)
/-! ### worths_there -/
def sp_worths_there (n : Nm) : Sp := fun vs H Q _ => ∃ (v vx vt : V) (wd : Kp379.World) (x : Stand) (r : Kp379.Row) (B : Nat), vs = [v, vx, vt] ∧ HRead n wd v H ∧ IsStand x vx H ∧ IsTab wd r vt H ∧ WfW wd ∧ OkS wd x ∧ RowOk wd B r ∧ B ≤ 900 ∧
  RetR (IsLst IsFr (step1 wd r x).2) H Q
theorem step1_two {wd : Kp379.World} {r : Kp379.Row} {x : Stand} {a : Nat} (h : (step1 wd r x).1 = some a) : (step1 wd r x).2 = (List.range wd.v).map fun u => Kp379.bring wd r x (Kp379.actAt wd x.p a) u := by
  by_cases c : Kp379.actsAt wd x.p = []
  · rw [step1_none c] at h
    cases h
  · obtain ⟨b, _, _, _, e⟩ := step1_some (r := r) c
    rw [e] at h ⊢
    have : b.1 = a := Option.some.inj h
    rw [← this]
theorem act_not_none {n : Nm} {a : Kp379.Act} {v : V} {H : Hp} (h : IsAct n.C_Act a v H) : decide (v = .non) = false := by
  obtain ⟨p, _, _, _, rfl, _⟩ := h
  rfl
theorem ok_worths_there (D : Ds n K mg) : FnOk P w K mg base CX0 7 n.f_worths_there n.fd_worths_there P_worths_there (sp_worths_there n) := by
  have G_act_done := ok_act_done (P := P) (w := w) (base := base) D
  have G_nothing_brought := ok_nothing_brought (P := P) (w := w) (base := base) D
  have G_brings := ok_brings (P := P) (w := w) (base := base) D
  refine D.d_worths_there.F.ok sc_worths_there (fun vs H Q E h => ?_) (fun cdv A outer s H vs Q E hr h => ?_)
  · obtain ⟨v, vx, vt, wd, x, r, B, rfl, _⟩ := h
    rfl
  · obtain ⟨v, vx, vt, wd, x, r, B, rfl, hH, hX, hT, ww, ox, ro, hB, k⟩ := h
    refine ⟨_, (pss_cons (ps_set (i := 3) sc_worths_there.nd rfl (Or.inr rfl) (pe_call G_act_done (hr.mono (by decide)) rfl D.d_act_done.g D.d_act_done.F.kp D.d_act_done.b .nil pass0 (pa_cons (pv 0) (pa_cons (pv 1) (pa_cons (pv 2) pa_nil)))))
      (pss_cons (ps_if (pt_cmpR op_isN (pv 3) pe_non (nomark _))
        (pss_one (ps_ret (pe_call G_nothing_brought (hr.mono (by decide)) rfl D.d_nothing_brought.g D.d_nothing_brought.F.kp D.d_nothing_brought.b .nil pass0 (pa_cons (pv 0) pa_nil))))
        pss_nil)
      (pss_one (ps_ret (pe_lc (own := [("lights", 4)]) (g := gName 4) (tt := tYes) rfl sc_worths_there.nd (pi_range1 (by rfl) D.n_range (pa_cons (pe_fld (pv 0) rfl) pa_nil)) (blkOk_by (own := [("lights", 4)]) (N := N_worths_there) (sc := defScope s_worths_there) (by decide +kernel)) (fun _ _ _ _ _ => (pg_name (i := 4) sc_worths_there.nd rfl (Or.inl rfl))) (fun _ _ _ _ _ => pts_nil) (fun _ _ _ _ _ => (pe_call G_brings (hr.mono (by decide)) rfl D.d_brings.g D.d_brings.F.kp D.d_brings.b .nil pass0 (pa_cons (pv 3) (pa_cons (pv 1) (pa_cons (pv 2) (pa_cons (pv 4) pa_nil))))))))))), ?_⟩
    refine ⟨_, rfl, _, rfl, _, rfl, v, vx, vt, wd, x, r, B, rfl, hH, hX, hT, ww, ox, ro, hB, fun va H1 e1 hd => ?_⟩
    refine ⟨_, rfl, rfl, _, rfl, ?_⟩
    rcases hd with ⟨c, rfl, hs⟩ | ⟨a, hs, hAd, wa⟩
    · refine if_t rfl ?_
      refine ⟨_, rfl, _, wd, rfl, hH.mono e1, ww.v3, ?_⟩
      rw [step1_none c] at k
      exact k.mono e1
    · refine if_f (act_not_none hAd) ?_
      rw [step1_two hs] at k
      have hH' := hH.mono e1
      obtain ⟨p, dx, fs, vas, rfl, hp, f1, f2, f3, _⟩ := hH'
      refine ⟨_, rfl, p, n.C_House, dx, _, _, rfl, hp, D.c_House.cl, D.House_selves, f2, (wd.v : Int), rfl, by have := ww.v3; omega, by have := ww.v3; omega, fun Dl hD => ?_⟩
      have nn : ((wd.v : Int)).toNat = wd.v := by omega
      refine lc_range (lo := 0) (n := ((wd.v : Int)).toNat) (fun i H' => Ex H1 H' ∧ ∃ vs, H' Dl = some (.lst vs) ∧ Each IsFr ((List.range i).map fun u => Kp379.bring wd r x (Kp379.actAt wd x.p a) u) vs H') ⟨Evl.Ex.new hD, [], upd_same, Each.nil⟩ ?_ ?_
      · rintro i H' hi ⟨e3, vs, h1, h2⟩
        have v3 := ww.v3
        have e4 : Ex H H' := e1.trans e3
        have ei : (0 : Int) + (i : Int) = (i : Int) := by omega
        refine ⟨rfl, ?_⟩
        refine ⟨_, rfl, _, rfl, _, rfl, _, rfl, ?_⟩
        refine ⟨_, _, _, i, wd, _, x, r, B, by rw [ei]; rfl, hAd.mono e3, hX.mono e4, hT.mono e4, ww.n4, wa, ox, by omega, ro, hB, fun vf H2 e5 hvf => ?_⟩
        have h1' := e5 _ _ h1
        refine ⟨vs, h1', small1000 (by rw [h2.1]; simp; omega), Evl.Ex.mut (e3.trans e5) hD, vs ++ [vf], upd_same, ?_⟩
        rw [range_map_succ]
        exact Each.snoc (h2.mono fun x v hx => (hx.mono e5).upd h1' noTup_lst) (hvf.upd h1' noTup_lst)
      · rintro H' ⟨e3, vs, h1, h2⟩
        refine k.go (e1.trans e3) ⟨Dl, vs, rfl, h1, ?_⟩
        rw [nn] at h2
        exact h2
end
end CI
namespace CI
open PySem PySem.Spec PyProof.Rows L2
open Evl (Ex fresh_back)
open Kp340 (Fr fr)
open Kp379 (Stand)
section
variable {P : Program} {w : World} {K : PySem.W.Frag} {mg : Str → Option Value} {base : Heap} {n : Nm}
theorem flat_succ {α : Type} (g : Nat → List α) (i : Nat) : (List.range (i + 1)).flatMap g = (List.range i).flatMap g ++ g i := by
  rw [List.range_succ, List.flatMap_append]
  simp
/-! ### all_stands -/
def sp_all_stands (n : Nm) : Sp := fun vs H Q _ => ∃ (v : V) (wd : Kp379.World), vs = [v] ∧ HRead n wd v H ∧ WfW wd ∧ RetR (IsLst IsStand (Kp379.stands wd)) H Q
/-- one more tuple behind a list -/
theorem snoc_stand {H' : Hp} {l q : Addr} {vs : List V} {xs : List Stand} {x : Stand} (h1 : H' l = some (.lst vs)) (h2 : Each IsStand xs vs H') (hq : H' q = none) :
    Each IsStand (xs ++ [x]) (vs ++ [.ref q]) (upd (upd H' q (.tup (standV x))) l (.lst (vs ++ [.ref q]))) := by
  have n1 : l ≠ q := ne_of_none h1 hq
  have h1' : (upd H' q (.tup (standV x))) l = some (.lst vs) := by rw [upd_ne n1]; exact h1
  refine Each.snoc (h2.mono fun y v hy => (hy.mono (Evl.Ex.new hq)).upd h1' noTup_lst) ?_
  exact IsStand.upd (x := x) ⟨q, rfl, upd_same⟩ h1' noTup_lst
theorem ok_all_stands (D : Ds n K mg) : FnOk P w K mg base CX0 1 n.f_all_stands n.fd_all_stands P_all_stands (sp_all_stands n) := by
  refine D.d_all_stands.F.ok sc_all_stands (fun vs H Q E h => ?_) (fun cdv A outer s H vs Q E hr h => ?_)
  · obtain ⟨v, wd, rfl, _⟩ := h
    rfl
  · obtain ⟨v, wd, rfl, hH, ww, k⟩ := h
    refine ⟨_, (pss_cons (ps_set (i := 1) sc_all_stands.nd rfl (Or.inl rfl) (pe_lst pa_nil))
      (pss_cons (ps_for PassesOwn.never rfl (pi_range1 (by rfl) D.n_range (pa_cons (pe_fld (pv 0) rfl) pa_nil)) (pg_name (i := 2) sc_all_stands.nd rfl (Or.inl rfl))
        (pss_one (ps_for PassesOwn.never rfl (pi_range1 (by rfl) D.n_range (pa_cons (pe_fld (pv 0) rfl) pa_nil)) (pg_name (i := 3) sc_all_stands.nd rfl (Or.inl rfl))
          (pss_cons (ps_expr (pe_bm PySem.F.plainAttrs_list PySem.F.slot_list_append PySem.F.type_list_append mt_append (pv 1) (pa_cons (pe_tup (pa_cons (pv 2) (pa_cons (pv 3) (pa_cons pe_int pa_nil)))) pa_nil)))
          (pss_one (ps_expr (pe_bm PySem.F.plainAttrs_list PySem.F.slot_list_append PySem.F.type_list_append mt_append (pv 1) (pa_cons (pe_tup (pa_cons (pv 2) (pa_cons (pv 3) (pa_cons pe_int pa_nil)))) pa_nil))))))))
      (pss_one (ps_ret (pv 1))))), ?_⟩
    obtain ⟨p, dx, fs, va, rfl, hp, f1, f2, f3, f4⟩ := hH
    have n4 := ww.n4
    have v3 := ww.v3
    refine ⟨(by show 0 ≤ sizeLine; decide), fun l hl => ?_⟩
    have e0 : Ex H (upd H l (.lst [])) := Evl.Ex.new hl
    let g : Nat → List Stand := fun p => (List.range wd.v).flatMap (two p)
    have gl : ∀ i, ((List.range i).flatMap g).length = i * (wd.v * 2) := flat_len g fun p => flat_len (k := 2) (two p) (fun _ => rfl) wd.v
    refine ⟨_, rfl, p, n.C_House, dx, _, _, rfl, e0 _ _ hp, D.c_House.cl, D.House_places, f1, (wd.n : Int), rfl, by omega, by omega, for_range (lo := 0) (n := ((wd.n : Int)).toNat) (fun i σ H' => Ex H H' ∧ ∃ (vs : List V) (o2 o3 : Option V),
      H' l = some (.lst vs) ∧ Each IsStand ((List.range i).flatMap g) vs H' ∧ σ = [some (.ref p), some (.ref l), o2, o3]) ⟨e0, [], none, none, upd_same, Each.nil, rfl⟩ ?_ ?_⟩
    · rintro i σ H1 hi ⟨e1, vs, o2, o3, h1, h2, rfl⟩
      refine ⟨_, rfl, p, n.C_House, dx, _, _, rfl, e1 _ _ hp, D.c_House.cl, D.House_selves, f2, (wd.v : Int), rfl, by omega, by omega, for_range (lo := 0) (n := ((wd.v : Int)).toNat) (fun j σ H' => Ex H H' ∧ ∃ (vs : List V) (o3 : Option V),
        H' l = some (.lst vs) ∧ Each IsStand ((List.range i).flatMap g ++ (List.range j).flatMap (two i)) vs H' ∧ σ = [some (.ref p), some (.ref l), some (.int (i : Int)), o3]) ⟨e1, vs, o3, h1, by simpa using h2, ?_⟩ ?_ ?_⟩
      · show [some (V.ref p), some (V.ref l), some (V.int ((0 : Int) + (i : Int))), o3] = _
        rw [Int.zero_add]
      · rintro j σ H2 hj ⟨e2, vs2, o3, h3, h4, rfl⟩
        have lj : ((List.range j).flatMap (two i)).length = j * 2 := flat_len (k := 2) (two i) (fun _ => rfl) j
        have len : vs2.length < 900 := by
          rw [h4.1, List.length_append, gl, lj]
          have h5 : i * (wd.v * 2) ≤ 4 * 6 := Nat.mul_le_mul (by omega) (by omega)
          omega
        refine ⟨_, rfl, .inl ⟨rfl, _, sqL h3⟩, _, rfl, _, rfl, (by show 3 ≤ sizeLine; decide), fun q hq => ?_⟩
        have nq : l ≠ q := ne_of_none h3 hq
        refine ⟨l, vs2, _, rfl, rfl, by rw [upd_ne nq]; exact h3, small1000 (by omega), ?_⟩
        rw [show ((0 : Int) + (j : Int)) = (j : Int) by omega]
        have E1 := snoc_stand (x := ⟨i, j, false⟩) h3 h4 hq
        have X1 : Ex H (upd (upd H2 q (.tup (standV ⟨i, j, false⟩))) l (.lst (vs2 ++ [.ref q]))) := Evl.Ex.mut (e2.trans (Evl.Ex.new hq)) hl
        refine ⟨_, rfl, .inl ⟨rfl, _, sqL upd_same⟩, _, rfl, _, rfl, (by show 3 ≤ sizeLine; decide), fun q2 hq2 => ?_⟩
        have hL : (upd (upd H2 q (.tup (standV ⟨i, j, false⟩))) l (.lst (vs2 ++ [.ref q]))) l = some (.lst (vs2 ++ [.ref q])) := upd_same
        have nq2 : l ≠ q2 := ne_of_none hL hq2
        refine ⟨l, vs2 ++ [.ref q], _, rfl, rfl, by rw [upd_ne nq2]; exact upd_same, small1000 (by rw [List.length_append]; simp; omega), ?_⟩
        have E2 := snoc_stand (x := ⟨i, j, true⟩) hL E1 hq2
        refine ⟨Evl.Ex.mut (X1.trans (Evl.Ex.new hq2)) hl, vs2 ++ [.ref q] ++ [.ref q2], _, upd_same, ?_, rfl⟩
        rw [flat_succ]
        have e : (List.range i).flatMap g ++ ((List.range j).flatMap (two i) ++ two i j) = (List.range i).flatMap g ++ (List.range j).flatMap (two i) ++ [⟨i, j, false⟩] ++ [⟨i, j, true⟩] := by
          simp [two]
        rw [e]
        exact E2
      · rintro σ H2 ⟨e2, vs2, o3, h3, h4, rfl⟩
        refine ⟨e2, vs2, _, _, h3, ?_, rfl⟩
        rw [flat_succ]
        have nn : ((wd.v : Int)).toNat = wd.v := by omega
        rw [nn] at h4
        exact h4
    · rintro σ H1 ⟨e1, vs, o2, o3, h1, h2, rfl⟩
      refine ⟨_, rfl, k.go e1 ⟨l, vs, rfl, h1, ?_⟩⟩
      have nn : ((wd.n : Int)).toNat = wd.n := by omega
      rw [nn] at h2
      exact h2
/-! ### tables -/
theorem valV_putK_same {κ : Type} [DecidableEq κ] {kvs : List (κ × V)} {k : κ} {v : V} : valV (putK kvs k v) k = some v := by
  unfold putK
  by_cases c : (kvs.any fun kv => decide (kv.1 = k)) = true
  · rw [if_pos c]
    induction kvs with
    | nil => cases c
    | cons p r ih =>
      rw [List.map_cons]
      by_cases cp : p.1 = k
      · rw [if_pos cp]
        exact valV_pos cp
      · rw [if_neg cp, valV_neg cp]
        refine ih ?_
        simpa [cp] using c
  · rw [if_neg c]
    induction kvs with
    | nil => exact valV_pos rfl
    | cons p r ih =>
      have c' : ¬ (p.1 = k) ∧ ¬ ((r.any fun kv => decide (kv.1 = k)) = true) := by
        simp at c ⊢
        exact ⟨c.1, c.2⟩
      show valV (p :: (r ++ [(k, v)])) k = _
      rw [valV_neg c'.1]
      exact ih c'.2
theorem valV_putK_ne {κ : Type} [DecidableEq κ] {kvs : List (κ × V)} {k j : κ} {v : V} (h : j ≠ k) : valV (putK kvs k v) j = valV kvs j := by
  unfold putK
  by_cases c : (kvs.any fun kv => decide (kv.1 = k)) = true
  · rw [if_pos c]
    clear c
    induction kvs with
    | nil => rfl
    | cons p r ih =>
      rw [List.map_cons]
      by_cases cp : p.1 = k
      · rw [if_pos cp, valV_neg (by rw [cp]; exact fun z => h z.symm), valV_neg (by rw [cp]; exact fun z => h z.symm)]
        exact ih
      · rw [if_neg cp]
        by_cases cj : p.1 = j
        · rw [valV_pos cj, valV_pos cj]
        · rw [valV_neg cj, valV_neg cj]
          exact ih
  · rw [if_neg c]
    clear c
    induction kvs with
    | nil =>
      show valV [(k, v)] j = _
      rw [valV_neg (fun z => h z.symm)]
    | cons p r ih =>
      show valV (p :: (r ++ [(k, v)])) j = _
      by_cases cj : p.1 = j
      · rw [valV_pos cj, valV_pos cj]
      · rw [valV_neg cj, valV_neg cj]
        exact ih
theorem putK_len' {κ : Type} [DecidableEq κ] {kvs : List (κ × V)} {k : κ} {v : V} : (putK kvs k v).length ≤ kvs.length + 1 := by
  unfold putK
  split
  · rw [List.length_map]; omega
  · rw [List.length_append]; simp
/-- a dict in the making: of the first i stands it has what G says -/
structure Making (wd : Kp379.World) (G : Stand → List Fr) (d : Addr) (i : Nat) (H : Hp) : Prop where
  ex : ∃ kvs : List (List Key × V), H d = some (.dT kvs) ∧ kvs.length ≤ i ∧ ∀ (j : Nat) (x : Stand), j < i → (Kp379.stands wd)[j]? = some x → ∃ u, valV kvs (sk x) = some u ∧ IsLst IsFr (G x) u H
theorem Making.start {wd : Kp379.World} {G : Stand → List Fr} {d : Addr} {H : Hp} (h : H d = some (.dT [])) : Making wd G d 0 H := ⟨[], h, Nat.le_refl _, fun j x hj => by omega⟩
theorem Making.mono {wd : Kp379.World} {G : Stand → List Fr} {d : Addr} {i : Nat} {H H' : Hp} (e : Ex H H') (m : Making wd G d i H) : Making wd G d i H' := by
  obtain ⟨kvs, h1, h2, h3⟩ := m.ex
  refine ⟨kvs, e _ _ h1, h2, fun j x hj hx => ?_⟩
  obtain ⟨u, h4, h5⟩ := h3 j x hj hx
  exact ⟨u, h4, h5.mono (fun a v ha => ha.mono e) e⟩
theorem Making.step {wd : Kp379.World} {G : Stand → List Fr} {d b : Addr} {i : Nat} {H : Hp} {x : Stand} {u : V} (m : Making wd G d i H) (hx : (Kp379.stands wd)[i]? = some x) (hb : H b = some (.tup (standV x))) (hu : IsLst IsFr (G x) u H) (hi : i < 1000) :
    ∃ H4, DPut H d (.ref b) u H4 ∧ Making wd G d (i + 1) H4 ∧ ∃ o, H4 = upd H d o := by
  obtain ⟨kvs, h1, h2, h3⟩ := m.ex
  refine ⟨_, DPut.t (k := sk x) h1 hb (small1000 (by omega)), ⟨putK kvs (sk x) u, upd_same, Nat.le_trans putK_len' (by omega), fun j y hj hy => ?_⟩, _, rfl⟩
  by_cases c : y = x
  · subst c
    exact ⟨u, valV_putK_same, lstFr_upd hu h1⟩
  · have hj' : j < i := by
      by_cases cj : j = i
      · subst cj
        exact absurd (Option.some.inj (hy.symm.trans hx)) c
      · omega
    obtain ⟨v, h4, h5⟩ := h3 j y hj' hy
    exact ⟨v, by rw [valV_putK_ne (fun z => c (sk_inj z))]; exact h4, lstFr_upd h5 h1⟩
theorem Making.doneF {wd : Kp379.World} {G : Stand → List Fr} {d : Addr} {H : Hp} (m : Making wd G d (Kp379.stands wd).length H) : IsTabF wd G (.ref d) H := by
  obtain ⟨kvs, h1, h2, h3⟩ := m.ex
  refine ⟨d, kvs, rfl, h1, fun x hx => ?_⟩
  have hs := stand_at hx
  obtain ⟨u, h4, h5⟩ := h3 _ x (List.getElem?_eq_some_iff.mp hs).1 hs
  exact ⟨u, h4, h5⟩
theorem Making.done {wd : Kp379.World} {G : Stand → List Fr} {d : Addr} {H : Hp} {r : Kp379.Row} (m : Making wd G d (Kp379.stands wd).length H) (h : ∀ x, OkS wd x → rowAtS wd r x = G x) : IsTab wd r (.ref d) H := by
  obtain ⟨kvs, h1, h2, h3⟩ := m.ex
  refine ⟨d, kvs, rfl, h1, fun x hx => ?_⟩
  have hs := stand_at hx
  obtain ⟨u, h4, h5⟩ := h3 _ x (List.getElem?_eq_some_iff.mp hs).1 hs
  refine ⟨u, h4, ?_⟩
  rw [h x hx]
  exact h5
/-! ### a store that a table does not see -/
/-- no dict, no tuple, no list whose first item is a tuple -/
def Apart (l : Addr) (H : Hp) : Prop := (∀ kvs, H l ≠ some (.dT kvs)) ∧ (∀ xs, H l ≠ some (.tup xs)) ∧ ∀ q r xs, H l = some (.lst (.ref q :: r)) → H q ≠ some (.tup xs)
theorem IsTabF.upd {wd : Kp379.World} {G : Stand → List Fr} {B : Nat} {v : V} {H : Hp} {l : Addr} {o : HO} (h : IsTabF wd G v H) (ok : TabOk wd B G) (v1 : 1 ≤ wd.v) (a : Apart l H) : IsTabF wd G v (upd H l o) := by
  obtain ⟨p, kvs, rfl, h1, h2⟩ := h
  refine ⟨p, kvs, rfl, ?_, fun x hx => ?_⟩
  · rw [upd_ne (fun z => a.1 kvs (by rw [← z]; exact h1))]
    exact h1
  · obtain ⟨u, h3, pl, vl, rfl, h4, h5⟩ := h2 x hx
    have nq : ∀ q xs, H q = some (.tup xs) → q ≠ l := fun q xs hq z => a.2.1 xs (by rw [← z]; exact hq)
    refine ⟨_, h3, pl, vl, rfl, ?_, h5.mono fun f v hf => ?_⟩
    · rw [upd_ne]
      · exact h4
      · intro z
        have hl := (ok x hx).1
        have h0 : 0 < (G x).length := by omega
        obtain ⟨v0, e0, q, rfl, hq⟩ := h5.2 0 _ (List.getElem?_eq_getElem h0)
        cases vl with
        | nil => simp at e0
        | cons v1 r =>
          have : v1 = .ref q := by simpa using e0
          subst this
          exact a.2.2 q r _ (by rw [← z]; exact h4) hq
    · obtain ⟨q, rfl, hq⟩ := hf
      refine ⟨q, rfl, ?_⟩
      rw [upd_ne (nq q _ hq)]
      exact hq
end
end CI
namespace CI
open PySem PySem.Spec PyProof.Rows L2
open Evl (Ex fresh_back)
open Kp340 (Fr fr)
open Kp379 (Stand)
/-- how many bits the fractions with so many steps left have at most -/
def bt : Nat → Nat
  | 0 => 1
  | k + 1 => 4 * bt k + 10
theorem rowOk_zero (wd : Kp379.World) : RowOk wd (bt 0) (Kp379.rowAt wd 0) := by
  intro x hx
  have e : rowAtS wd (Kp379.rowAt wd 0) x = none0 wd := by
    show (ent wd _ x).2 = _
    rw [ent_zero hx]
  rw [e]
  unfold none0
  refine ⟨by simp, fun u hu => ?_⟩
  rw [List.getD_eq_getElem?_getD, List.getElem?_map, List.getElem?_range hu]
  exact ⟨show (0 : Int).natAbs < 2 ^ 1 by decide, show (1 : Int).natAbs < 2 ^ 1 by decide, show (0 : Int) < 1 by decide⟩
theorem rowOk_next {wd : Kp379.World} {r : Kp379.Row} {B : Nat} (ww : WfW wd) (ro : RowOk wd B r) : RowOk wd (4 * B + 10) (Kp379.nextRow wd r) := by
  intro x hx
  have e : rowAtS wd (Kp379.nextRow wd r) x = (step1 wd r x).2 := by
    show (ent wd _ x).2 = _
    rw [ent_next hx]
  rw [e]
  unfold step1
  cases hb : Kp379.bestIn ((Kp379.actsAt wd x.p).map fun a => Kp379.bring wd r x a x.s) with
  | none =>
    show (none0 wd).length = _ ∧ _
    unfold none0
    refine ⟨by simp, fun u hu => ?_⟩
    show Bits _ (((List.range wd.v).map fun _ => ((0 : Int), (1 : Int))).getD u (0, 1))
    rw [List.getD_eq_getElem?_getD, List.getElem?_map, List.getElem?_range hu]
    have : 2 ^ 1 ≤ 2 ^ (4 * B + 10) := Nat.pow_le_pow_right (by omega) (by omega)
    exact ⟨show (0 : Int).natAbs < _ by simp only [Int.natAbs_zero]; omega, show (1 : Int).natAbs < _ by simp only [Int.natAbs_one]; omega, show (0 : Int) < 1 by decide⟩
  | some b =>
    show ((List.range wd.v).map fun u => Kp379.bring wd r x (Kp379.actAt wd x.p b.1) u).length = _ ∧ ∀ u, u < wd.v → Bits _ (((List.range wd.v).map fun u => Kp379.bring wd r x (Kp379.actAt wd x.p b.1) u).getD u (0, 1))
    refine ⟨by simp, fun u hu => ?_⟩
    rw [List.getD_eq_getElem?_getD, List.getElem?_map, List.getElem?_range hu]
    obtain ⟨g1, g2, g3⟩ := ww.at_ hx.1
    have hne : (Kp379.actsAt wd x.p).map (fun a => Kp379.bring wd r x a x.s) ≠ [] := by
      intro z
      rw [z] at hb
      cases hb
    obtain ⟨b', hb', hlt, _⟩ := bestIn_some _ hne
    have hbb : b' = b := Option.some.inj (hb'.symm.trans hb)
    subst hbb
    rw [List.length_map] at hlt
    have ga : (Kp379.actsAt wd x.p)[b'.1]? = some (Kp379.actAt wd x.p b'.1) := by
      unfold Kp379.actAt
      rw [List.getD_eq_getElem?_getD, List.getElem?_eq_getElem hlt]
      rfl
    exact bring_ok ww.n4 (g3 _ (List.mem_of_getElem? ga)) hx hu ro
theorem rowOk {wd : Kp379.World} (ww : WfW wd) : ∀ k, RowOk wd (bt k) (Kp379.rowAt wd k)
  | 0 => rowOk_zero wd
  | k + 1 => by
    rw [rowAt_succ]
    exact rowOk_next ww (rowOk ww k)
section
variable {P : Program} {w : World} {K : PySem.W.Frag} {mg : Str → Option Value} {base : Heap} {n : Nm}
theorem stands_small {wd : Kp379.World} (ww : WfW wd) : (Kp379.stands wd).length ≤ 24 := by
  rw [stands_len]
  have n4 := ww.n4
  have v3 := ww.v3
  exact Nat.le_trans (Nat.mul_le_mul (show wd.n ≤ 4 by omega) (show wd.v * 2 ≤ 6 by omega)) (by decide)
/-! ### one_step_more -/
def sp_one_step_more (n : Nm) : Sp := fun vs H Q _ => ∃ (v vt : V) (wd : Kp379.World) (r : Kp379.Row) (B : Nat), vs = [v, vt] ∧ HRead n wd v H ∧ IsTab wd r vt H ∧ WfW wd ∧ RowOk wd B r ∧ B ≤ 900 ∧ RetR (IsTab wd (Kp379.nextRow wd r)) H Q
theorem ok_one_step_more (D : Ds n K mg) : FnOk P w K mg base CX0 8 n.f_one_step_more n.fd_one_step_more P_one_step_more (sp_one_step_more n) := by
  have G_all_stands := ok_all_stands (P := P) (w := w) (base := base) D
  have G_worths_there := ok_worths_there (P := P) (w := w) (base := base) D
  refine D.d_one_step_more.F.ok sc_one_step_more (fun vs H Q E h => ?_) (fun cdv A outer s H vs Q E hr h => ?_)
  · obtain ⟨v, vt, wd, r, B, rfl, _⟩ := h
    rfl
  · obtain ⟨v, vt, wd, r, B, rfl, hH, hT, ww, ro, hB, k⟩ := h
    refine ⟨_, (pss_cons (ps_set (i := 2) sc_one_step_more.nd rfl (Or.inl rfl) pe_dnewT)
      (pss_cons (ps_for PassesOwn.never rfl (pi_list (pe_call G_all_stands (hr.mono (by decide)) rfl D.d_all_stands.g D.d_all_stands.F.kp D.d_all_stands.b .nil pass0 (pa_cons (pv 0) pa_nil))) (pg_name (i := 3) sc_one_step_more.nd rfl (Or.inl rfl))
        (pss_one (ps_dput (hu_of hr) (pv 2) (pv 3) (pe_call G_worths_there (hr.mono (by decide)) rfl D.d_worths_there.g D.d_worths_there.F.kp D.d_worths_there.b .nil pass0 (pa_cons (pv 0) (pa_cons (pv 3) (pa_cons (pv 1) pa_nil)))) rfl)))
      (pss_one (ps_ret (pv 2))))), ?_⟩
    intro d hd
    have e0 : Ex H (upd H d (.dT [])) := Evl.Ex.new hd
    refine ⟨_, rfl, _, wd, rfl, hH.mono e0, ww, fun vl H1 e1 hl => ?_⟩
    obtain ⟨l, xs, rfl, hl1, hE⟩ := hl
    have m0 : Making wd (fun x => (step1 wd r x).2) d 0 H1 := Making.mono e1 (.start upd_same)
    have ls := stands_small ww
    refine ⟨l, rfl, ⟨xs, sqL hl1⟩, for_list (K := K) (a := l) (xs := xs) (fun i σ H' => Ex H H' ∧ H' l = some (.lst xs) ∧ Each IsStand (Kp379.stands wd) xs H' ∧ Making wd (fun x => (step1 wd r x).2) d i H' ∧ ∃ o3 : Option V, σ = [some v, some vt, some (.ref d), o3])
      ⟨e0.trans e1, hl1, hE, m0, none, rfl⟩ (fun i σ H' _ h => sqL h.2.1) ?_ ?_⟩
    · rintro i y σ H' hi ⟨e2, h1, h2, m, o3, rfl⟩
      obtain ⟨x, hx, hX⟩ := h2.back hi
      have hX' := hX
      obtain ⟨b, rfl, hb⟩ := hX'
      have ox : OkS wd x := mem_stands (List.mem_of_getElem? hx)
      have il := (List.getElem?_eq_some_iff.mp hx).1
      refine ⟨_, rfl, _, rfl, _, rfl, ?_⟩
      refine ⟨_, _, _, wd, x, r, B, rfl, hH.mono e2, hX, hT.mono e2, ww, ox, ro, hB, fun u H2 e3 hu => ?_⟩
      refine ⟨_, rfl, _, rfl, ?_⟩
      obtain ⟨H4, h4, h5, o, rfl⟩ := (m.mono e3).step hx (e3 _ _ hb) hu (by omega)
      obtain ⟨kvs, hdk, _⟩ := (m.mono e3).ex
      refine ⟨d, _, rfl, h4, Evl.Ex.mut (e2.trans e3) hd, ?_, h2.mono (fun a v ha => (ha.mono e3).upd hdk noTup_dT), h5, _, rfl⟩
      rw [upd_ne (ne_of (e3 _ _ h1) hdk (by intro z; cases z))]
      exact e3 _ _ h1
    · rintro σ H' ⟨e2, h1, h2, m, o3, rfl⟩
      refine ⟨_, rfl, k.go e2 ?_⟩
      rw [h2.1] at m
      exact m.done fun x hx => by
        show (ent wd _ x).2 = _
        rw [ent_next hx]
/-! ### worth_tables, worth_table -/
/-- the tables with 0 to k steps left -/
def IsTabs (wd : Kp379.World) (k : Nat) (v : V) (H : Hp) : Prop := ∃ p vs, v = .ref p ∧ H p = some (.lst vs) ∧ vs.length = k + 1 ∧ ∀ j, j ≤ k → ∃ u, vs[j]? = some u ∧ IsTab wd (Kp379.rowAt wd j) u H
theorem IsTabs.mono {wd : Kp379.World} {k : Nat} {v : V} {H H' : Hp} (e : Ex H H') (h : IsTabs wd k v H) : IsTabs wd k v H' := by
  obtain ⟨p, vs, rfl, h1, h2, h3⟩ := h
  refine ⟨p, vs, rfl, e _ _ h1, h2, fun j hj => ?_⟩
  obtain ⟨u, h4, h5⟩ := h3 j hj
  exact ⟨u, h4, h5.mono e⟩
theorem bt_le {k : Nat} (h : k ≤ 3) : bt k ≤ 900 := by
  match k, h with
  | 0, _ => decide
  | 1, _ => decide
  | 2, _ => decide
  | 3, _ => decide
theorem does_is {wd : Kp379.World} {x : Stand} (ox : OkS wd x) (k : Nat) : Kp379.does wd x (k + 1) = (step1 wd (Kp379.rowAt wd k) x).1 := by
  show (ent wd _ x).1 = _
  rw [rowAt_succ, ent_next ox]
theorem IsTab.there {wd : Kp379.World} {r : Kp379.Row} {v : V} {H : Hp} (h : IsTab wd r v H) : ∃ d kvs, v = .ref d ∧ H d = some (.dT kvs) := by
  obtain ⟨d, kvs, rfl, h1, _⟩ := h
  exact ⟨d, kvs, rfl, h1⟩
/-- a list of tables grows: the tables stay -/
theorem apart_tabs {wd : Kp379.World} {r : Kp379.Row} {H : Hp} {l : Addr} {u : V} {vs : List V} (h : H l = some (.lst (u :: vs))) (t : IsTab wd r u H) : Apart l H := by
  obtain ⟨d, kvs, rfl, hd⟩ := t.there
  refine ⟨fun k z => ?_, fun k z => ?_, fun q r xs z w => ?_⟩
  · rw [h] at z; cases z
  · rw [h] at z; cases z
  · rw [h] at z
    cases z
    rw [hd] at w
    cases w
def sp_worth_tables (n : Nm) : Sp := fun vs H Q _ => ∃ (v : V) (wd : Kp379.World) (st : Nat), vs = [v, .int (st : Int)] ∧ HRead n wd v H ∧ WfW wd ∧ st ≤ 4 ∧ RetR (IsTabs wd st) H Q
theorem ok_worth_tables (D : Ds n K mg) : FnOk P w K mg base CX0 9 n.f_worth_tables n.fd_worth_tables P_worth_tables (sp_worth_tables n) := by
  have G_all_stands := ok_all_stands (P := P) (w := w) (base := base) D
  have G_nothing_brought := ok_nothing_brought (P := P) (w := w) (base := base) D
  have G_one_step_more := ok_one_step_more (P := P) (w := w) (base := base) D
  refine D.d_worth_tables.F.ok sc_worth_tables (fun vs H Q E h => ?_) (fun cdv A outer s H vs Q E hr h => ?_)
  · obtain ⟨v, wd, st, rfl, _⟩ := h
    rfl
  · obtain ⟨v, wd, st, rfl, hH, ww, hst, k⟩ := h
    refine ⟨_, (pss_cons (ps_set (i := 2) sc_worth_tables.nd rfl (Or.inl rfl) pe_dnewT)
      (pss_cons (ps_for PassesOwn.never rfl (pi_list (pe_call G_all_stands (hr.mono (by decide)) rfl D.d_all_stands.g D.d_all_stands.F.kp D.d_all_stands.b .nil pass0 (pa_cons (pv 0) pa_nil))) (pg_name (i := 3) sc_worth_tables.nd rfl (Or.inl rfl))
        (pss_one (ps_dput (hu_of hr) (pv 2) (pv 3) (pe_call G_nothing_brought (hr.mono (by decide)) rfl D.d_nothing_brought.g D.d_nothing_brought.F.kp D.d_nothing_brought.b .nil pass0 (pa_cons (pv 0) pa_nil)) rfl)))
      (pss_cons (ps_set (i := 4) sc_worth_tables.nd rfl (Or.inl rfl) (pe_lst (pa_cons (pv 2) pa_nil)))
      (pss_cons (ps_for PassesOwn.never rfl (pi_range1 (by rfl) D.n_range (pa_cons (pv 1) pa_nil)) (pg_name (i := 5) sc_worth_tables.nd rfl (Or.inl rfl))
        (pss_one (ps_expr (pe_bm PySem.F.plainAttrs_list PySem.F.slot_list_append PySem.F.type_list_append mt_append (pv 4) (pa_cons (pe_call G_one_step_more (hr.mono (by decide)) rfl D.d_one_step_more.g D.d_one_step_more.F.kp D.d_one_step_more.b .nil pass0 (pa_cons (pv 0) (pa_cons (pe_ix ix_list (pv 4) (pv 5) (fun _ _ => rfl)) pa_nil))) pa_nil)))))
      (pss_one (ps_ret (pv 4))))))), ?_⟩
    intro d hd
    have e0 : Ex H (upd H d (.dT [])) := Evl.Ex.new hd
    refine ⟨_, rfl, _, wd, rfl, hH.mono e0, ww, fun vl H1 e1 hl => ?_⟩
    obtain ⟨l, xs, rfl, hl1, hE⟩ := hl
    have m0 : Making wd (fun _ => none0 wd) d 0 H1 := Making.mono e1 (.start upd_same)
    have ls := stands_small ww
    refine ⟨l, rfl, ⟨xs, sqL hl1⟩, for_list (K := K) (a := l) (xs := xs) (fun i σ H' => Ex H H' ∧ H' l = some (.lst xs) ∧ Each IsStand (Kp379.stands wd) xs H' ∧ Making wd (fun _ => none0 wd) d i H' ∧ ∃ o3 : Option V, σ = [some v, some (.int (st : Int)), some (.ref d), o3, none, none])
      ⟨e0.trans e1, hl1, hE, m0, none, rfl⟩ (fun i σ H' _ h => sqL h.2.1) ?_ ?_⟩
    · rintro i y σ H' hi ⟨e2, h1, h2, m, o3, rfl⟩
      obtain ⟨x, hx, hX⟩ := h2.back hi
      obtain ⟨b, rfl, hb⟩ := hX
      have il := (List.getElem?_eq_some_iff.mp hx).1
      refine ⟨_, rfl, _, wd, rfl, hH.mono e2, ww.v3, fun u H2 e3 hu => ?_⟩
      refine ⟨_, rfl, _, rfl, ?_⟩
      obtain ⟨H4, h4, h5, o, rfl⟩ := (m.mono e3).step hx (e3 _ _ hb) hu (by omega)
      obtain ⟨kvs, hdk, _⟩ := (m.mono e3).ex
      refine ⟨d, _, rfl, h4, Evl.Ex.mut (e2.trans e3) hd, ?_, h2.mono (fun a v ha => (ha.mono e3).upd hdk noTup_dT), h5, _, rfl⟩
      rw [upd_ne (ne_of (e3 _ _ h1) hdk (by intro z; cases z))]
      exact e3 _ _ h1
    · rintro σ H' ⟨e2, h1, h2, m, o3, rfl⟩
      rw [h2.1] at m
      have t0 : IsTab wd (Kp379.rowAt wd 0) (.ref d) H' := m.done fun x hx => by
        show (ent wd _ x).2 = _
        rw [ent_zero hx]
      refine ⟨_, rfl, by show 1 ≤ sizeLine; decide, fun tl htl => ?_⟩
      have e3 : Ex H' (upd H' tl (.lst [.ref d])) := Evl.Ex.new htl
      have ht0 : H tl = none := fresh_back e2 htl
      refine ⟨_, rfl, (st : Int), rfl, by omega, by omega, for_range (lo := 0) (n := ((st : Int)).toNat) (fun i σ H' => Ex H H' ∧ ∃ (vs : List V) (o4 : Option V), H' tl = some (.lst vs) ∧ vs.length = i + 1 ∧ (∀ j, j ≤ i → ∃ u, vs[j]? = some u ∧ IsTab wd (Kp379.rowAt wd j) u H') ∧ σ = [some v, some (.int (st : Int)), some (.ref d), o3, some (.ref tl), o4])
        ⟨e2.trans e3, [.ref d], none, upd_same, rfl, fun j hj => ?_, rfl⟩ ?_ ?_⟩
      · have : j = 0 := by omega
        subst this
        exact ⟨_, rfl, t0.mono e3⟩
      · rintro i σ H2 hi ⟨e4, vs, o4, h3, h4, h5, rfl⟩
        obtain ⟨u, hu, tu⟩ := h5 i (Nat.le_refl _)
        have ei : (0 : Int) + (i : Int) = (i : Int) := by omega
        refine ⟨_, rfl, .inl ⟨rfl, _, sqL h3⟩, _, rfl, _, rfl, _, rfl, tl, _, _, _, rfl, rfl, sqL h3, at_of ei hu, ?_⟩
        refine ⟨_, _, wd, Kp379.rowAt wd i, bt i, rfl, hH.mono e4, tu, ww, rowOk ww i, bt_le (by omega), fun vt2 H3 e5 t2 => ?_⟩
        have h3' := e5 _ _ h3
        refine ⟨tl, vs, vt2, rfl, rfl, h3', small1000 (by omega), Evl.Ex.mut (e4.trans e5) ht0, vs ++ [vt2], _, upd_same, by rw [List.length_append, h4]; rfl, fun j hj => ?_, rfl⟩
        have ap : Apart tl H3 := by
          obtain ⟨u0, hu0, tu0⟩ := h5 0 (by omega)
          cases vs with
          | nil => simp at h4
          | cons v0 r =>
            have : v0 = u0 := by simpa using hu0
            subst this
            exact apart_tabs h3' (tu0.mono e5)
        by_cases c : j ≤ i
        · obtain ⟨u1, hu1, tu1⟩ := h5 j c
          exact ⟨u1, by rw [List.getElem?_append_left (by omega)]; exact hu1, (tu1.mono e5).upd (rowOk ww j) ww.v1 ap⟩
        · have hj' : j = i + 1 := by omega
          subst hj'
          refine ⟨vt2, by rw [List.getElem?_append_right (by omega), h4]; simp, ?_⟩
          rw [rowAt_succ]
          refine IsTabF.upd (B := bt (i + 1)) t2 ?_ ww.v1 ap
          have := rowOk ww (i + 1)
          rw [rowAt_succ] at this
          exact this
      · rintro σ H2 ⟨e4, vs, o4, h3, h4, h5, rfl⟩
        have nn : ((st : Int)).toNat = st := by omega
        rw [nn] at h4 h5
        exact ⟨_, rfl, k.go e4 ⟨tl, vs, rfl, h3, h4, h5⟩⟩
def sp_worth_table (n : Nm) : Sp := fun vs H Q _ => ∃ (v : V) (wd : Kp379.World) (st : Nat), vs = [v, .int (st : Int)] ∧ HRead n wd v H ∧ WfW wd ∧ st ≤ 4 ∧ RetR (IsTab wd (Kp379.rowAt wd st)) H Q
theorem ok_worth_table (D : Ds n K mg) : FnOk P w K mg base CX0 10 n.f_worth_table n.fd_worth_table P_worth_table (sp_worth_table n) := by
  have G_worth_tables := ok_worth_tables (P := P) (w := w) (base := base) D
  refine D.d_worth_table.F.ok sc_worth_table (fun vs H Q E h => ?_) (fun cdv A outer s H vs Q E hr h => ?_)
  · obtain ⟨v, wd, st, rfl, _⟩ := h
    rfl
  · obtain ⟨v, wd, st, rfl, hH, ww, hst, k⟩ := h
    refine ⟨_, (pss_one (ps_ret (pe_ix ix_list (pe_call G_worth_tables (hr.mono (by decide)) rfl D.d_worth_tables.g D.d_worth_tables.F.kp D.d_worth_tables.b .nil pass0 (pa_cons (pv 0) (pa_cons (pv 1) pa_nil))) (pv 1) (fun _ _ => rfl)))), ?_⟩
    refine ⟨_, rfl, _, rfl, _, wd, st, rfl, hH, ww, hst, fun vt H1 e1 ht => ?_⟩
    obtain ⟨p, vs, rfl, h1, h2, h3⟩ := ht
    obtain ⟨u, hu, tu⟩ := h3 st (Nat.le_refl _)
    exact ⟨_, rfl, p, _, _, _, rfl, rfl, sqL h1, atI_nat hu, k.go e1 tu⟩
end
end CI
namespace CI
open PySem PySem.Spec PyProof.Rows L2
open Evl (Ex fresh_back)
open Kp379 (Stand)
/-! ### lists of numbers, compared -/
theorem dp_ints {K : PySem.W.Frag} {H : Hp} : ∀ ns : List Int, DpAll K H (ns.map V.int) (ns.map PyData.int)
  | [] => .nil
  | z :: r => .cons (.int z) (dp_ints r)
theorem canLay_ints : ∀ ns : List Int, PyData.canLayAll0 (ns.map PyData.int) = true
  | [] => rfl
  | z :: r => by
    show PyData.canLayAll0 (.int z :: r.map PyData.int) = true
    unfold PyData.canLayAll0
    rw [canLay_ints r]
    rfl
theorem depthAll_ints : ∀ ns : List Int, PyData.depthAll (ns.map PyData.int) ≤ 1
  | [] => by show PyData.depthAll [] ≤ 1; simp [PyData.depthAll]
  | z :: r => by
    have ih := depthAll_ints r
    show PyData.depthAll (.int z :: r.map PyData.int) ≤ 1
    simp only [PyData.depthAll, PyData.depth]
    omega
theorem shaped_ints (ns : List Int) : SeqAt.shaped (.list (ns.map PyData.int)) = true := by
  unfold SeqAt.shaped
  have h1 := canLay_ints ns
  have h2 := depthAll_ints ns
  rw [Bool.and_eq_true]
  refine ⟨?_, decide_eq_true ?_⟩
  · simpa only [PyData.canLay0] using h1
  · simp only [PyData.depth]
    omega
theorem eqvAll_ints : ∀ a b : List Int, PyData.eqvAll (a.map PyData.int) (b.map PyData.int) = decide (a = b)
  | [], [] => by simp [PyData.eqvAll]
  | [], y :: b => by simp [PyData.eqvAll]
  | x :: a, [] => by simp [PyData.eqvAll]
  | x :: a, y :: b => by
    have ih := eqvAll_ints a b
    show PyData.eqvAll (.int x :: a.map PyData.int) (.int y :: b.map PyData.int) = _
    simp only [PyData.eqvAll, PyData.eqv, ih]
    by_cases c : x = y <;> by_cases d : a = b <;> simp [c, d]
/-- a == b of two lists of numbers: what rEqD asks -/
theorem eq_ints {K : PySem.W.Frag} {H : Hp} {p q : Addr} {a b : List Int} {Q : VK} (hp : H p = some (.lst (a.map V.int))) (hq : H q = some (.lst (b.map V.int))) (h : Q (.bl (decide (a = b))) H) : rEqD K (.ref p) (.ref q) H Q := by
  refine ⟨.list (a.map PyData.int), .list (b.map PyData.int), .lst (sqL hp) (dp_ints a), .lst (sqL hq) (dp_ints b), shaped_ints a, shaped_ints b, ?_⟩
  have e : PyData.eqv (.list (a.map PyData.int)) (.list (b.map PyData.int)) = decide (a = b) := by
    simp only [PyData.eqv]
    exact eqvAll_ints a b
  rw [e]
  exact h
theorem natV_int (l : List Nat) : natV l = (l.map fun (n : Nat) => (n : Int)).map V.int := by
  unfold natV
  rw [List.map_map]
  rfl
theorem map_nat_inj {a b : List Nat} : (a.map fun (n : Nat) => (n : Int)) = (b.map fun (n : Nat) => (n : Int)) ↔ a = b := by
  constructor
  · intro h
    induction a generalizing b with
    | nil => cases b with | nil => rfl | cons _ _ => cases h
    | cons x r ih => cases b with
      | nil => cases h
      | cons y s =>
        simp only [List.map_cons, List.cons.injEq] at h
        have h1 : x = y := by omega
        rw [h1, ih h.2]
  · intro h
    rw [h]
/-- whether b is a twin of a; whether there is one -/
def twinOf (a b : Kp379.Act) : Bool := b.turn == 0 && !b.lock && b.pays == a.pays && b.to == a.to
def lonelyIn (as : List Kp379.Act) (a : Kp379.Act) : Bool := a.turn != 0 && !as.any (twinOf a)
section
variable {P : Program} {w : World} {K : PySem.W.Frag} {mg : Str → Option Value} {base : Heap} {n : Nm}
/-! ### is_twin -/
def sp_is_twin (n : Nm) : Sp := fun vs H Q _ => ∃ (va vb : V) (a b : Kp379.Act), vs = [va, vb] ∧ IsAct n.C_Act a va H ∧ IsAct n.C_Act b vb H ∧ RetR (fun v _ => v = .bl (twinOf a b)) H Q
theorem ok_is_twin (D : Ds n K mg) : FnOk P w K mg base CX0 1 n.f_is_twin n.fd_is_twin P_is_twin (sp_is_twin n) := by
  refine D.d_is_twin.F.ok sc_is_twin (fun vs H Q E h => ?_) (fun cdv A outer s H vs Q E hr h => ?_)
  · obtain ⟨va, vb, a, b, rfl, _⟩ := h
    rfl
  · obtain ⟨va, vb, a, b, rfl, ⟨p, dx, pp, pw, rfl, hp, hpp, hpw⟩, ⟨q, dy, qp, qw, rfl, hq, hqp, hqw⟩, k⟩ := h
    refine ⟨_, (pss_cons (ps_set (i := 2) sc_is_twin.nd rfl (Or.inl rfl) (pe_and (pe_cmpR op_eq (pe_fld (pv 1) rfl) pe_int (nomark _)) (pe_one (pe_cmpR op_eq (pe_fld (pv 1) rfl) pe_int (nomark _)))))
      (pss_one (ps_ret (pe_and (pv 2) (pe_and (pe_cmpR (op_eqD hr.units) (pe_fld (pv 1) rfl) (pe_fld (pv 0) rfl) (nomark _)) (pe_one (pe_cmpR (op_eqD hr.units) (pe_fld (pv 1) rfl) (pe_fld (pv 0) rfl) (nomark _)))))))), ?_⟩
    have lk : decide (V.int (b2 b.lock) = V.int 0) = !b.lock := by cases b.lock <;> rfl
    have tn : decide (V.int (b.turn : Int) = V.int 0) = (b.turn == 0) := by
      by_cases c : b.turn = 0
      · rw [c]; rfl
      · have h1 : (b.turn == 0) = false := by simpa using c
        rw [h1]
        simp
        omega
    -- what follows once it is known whether it is plain
    have last : ∀ c : Bool, c = (b.turn == 0 && !b.lock) → tRet (tAndV (tVar 2) (tAndV (tOp (rEqD K) (tFld K (tVar 1) "pays") (tFld K (tVar 0) "pays")) (tOp (rEqD K) (tFld K (tVar 1) "weights") (tFld K (tVar 0) "weights")))) { nx := fun _ H' => Q .non H', rt := Q } [some (.ref p), some (.ref q), some (.bl c)] H := by
      intro c hc
      refine ⟨_, rfl, _, rfl, ?_⟩
      refine if_c (fun c1 => ?_) (fun c1 => ?_)
      · subst c1
        refine ⟨_, rfl, q, n.C_Act, dy, _, _, rfl, hq, D.c_Act.cl, D.Act_pays, actF_pays, _, rfl, p, n.C_Act, dx, _, _, rfl, hp, D.c_Act.cl, D.Act_pays, actF_pays, eq_ints hqp hpp ⟨_, rfl, ?_⟩⟩
        refine if_c (fun c2 => ?_) (fun c2 => ?_)
        · refine ⟨_, rfl, q, n.C_Act, dy, _, _, rfl, hq, D.c_Act.cl, D.Act_weights, actF_weights, _, rfl, p, n.C_Act, dx, _, _, rfl, hp, D.c_Act.cl, D.Act_weights, actF_weights, ?_⟩
          rw [natV_int] at hqw hpw
          refine eq_ints hqw hpw (k.go (Evl.Ex.refl _) ?_)
          have e1 : (b.turn == 0 && !b.lock) = true := hc.symm
          have e2 : (b.pays == a.pays) = true := by simpa using c2
          unfold twinOf
          rw [e1, e2]
          by_cases c3 : b.to = a.to
          · rw [decide_eq_true (map_nat_inj.mpr c3), c3]
            simp
          · rw [decide_eq_false (fun z => c3 (map_nat_inj.mp z))]
            have : (b.to == a.to) = false := by simpa using c3
            rw [this]
            rfl
        · refine k.go (Evl.Ex.refl _) ?_
          have e2 : (b.pays == a.pays) = false := by simpa using c2
          unfold twinOf
          rw [e2]
          simp
      · subst c1
        refine k.go (Evl.Ex.refl _) ?_
        unfold twinOf
        rw [← hc]
        rfl
    refine ⟨_, rfl, q, n.C_Act, dy, _, _, rfl, hq, D.c_Act.cl, D.Act_turn, actF_turn, rfl, _, rfl, ?_⟩
    refine if_c (fun c1 => ?_) (fun c1 => ?_)
    · refine ⟨_, rfl, q, n.C_Act, dy, _, _, rfl, hq, D.c_Act.cl, D.Act_locks, actF_locks, rfl, ?_⟩
      refine last _ ?_
      rw [lk]
      rw [tn] at c1
      rw [c1]
      rfl
    · refine last false ?_
      rw [tn] at c1
      rw [c1]
      rfl
/-! ### is_lonely -/
def sp_is_lonely (n : Nm) : Sp := fun vs H Q _ => ∃ (va vl : V) (a : Kp379.Act) (as : List Kp379.Act), vs = [va, vl] ∧ IsAct n.C_Act a va H ∧ IsLst (IsAct n.C_Act) as vl H ∧ as.length ≤ 900 ∧ RetR (fun v _ => v = .bl (lonelyIn as a)) H Q
theorem ok_is_lonely (D : Ds n K mg) : FnOk P w K mg base CX0 2 n.f_is_lonely n.fd_is_lonely P_is_lonely (sp_is_lonely n) := by
  have G_is_twin := ok_is_twin (P := P) (w := w) (base := base) D
  refine D.d_is_lonely.F.ok sc_is_lonely (fun vs H Q E h => ?_) (fun cdv A outer s H vs Q E hr h => ?_)
  · obtain ⟨va, vl, a, as, rfl, _⟩ := h
    rfl
  · obtain ⟨va, vl, a, as, rfl, hA, hL, hz, k⟩ := h
    refine ⟨_, (pss_one (ps_ret (pe_and (pe_cmpR op_ne (pe_fld (pv 0) rfl) pe_int (nomark _)) (pe_one (pe_not (pe_callB (cr_any rfl) (by rfl) D.n_any (by decide +kernel) (pa_cons (pe_lc (own := [("other", 2)]) (g := gName 2) (tt := tYes) rfl sc_is_lonely.nd (pi_list (pv 1)) (blkOk_by (own := [("other", 2)]) (N := N_is_lonely) (sc := defScope s_is_lonely) (by decide +kernel)) (fun _ _ _ _ _ => (pg_name (i := 2) sc_is_lonely.nd rfl (Or.inl rfl))) (fun _ _ _ _ _ => pts_nil) (fun _ _ _ _ _ => (pe_call G_is_twin hr rfl D.d_is_twin.g D.d_is_twin.F.kp D.d_is_twin.b .nil pass0 (pa_cons (pv 0) (pa_cons (pv 2) pa_nil))))) pa_nil))))))), ?_⟩
    have hA' := hA
    obtain ⟨p, dx, pp, pw, rfl, hp, hpp, hpw⟩ := hA'
    obtain ⟨l, xs, rfl, hl, hE⟩ := hL
    refine ⟨_, rfl, p, n.C_Act, dx, _, _, rfl, hp, D.c_Act.cl, D.Act_turn, actF_turn, rfl, _, rfl, ?_⟩
    have tn : (!decide (V.int (a.turn : Int) = V.int 0)) = (a.turn != 0) := by
      by_cases c : a.turn = 0
      · rw [c]; rfl
      · have h1 : (a.turn != 0) = true := by simpa using c
        rw [h1]
        simp
        omega
    refine if_c (fun c1 => ?_) (fun c1 => ?_)
    · refine ⟨_, rfl, l, rfl, ⟨xs, sqL hl⟩, fun Dl hD => ?_⟩
      refine lc_list (K := K) (a := l) (xs := xs) (fun i H' => Ex H H' ∧ H' Dl = some (.lst ((((as.take i).map (twinOf a)).map V.bl)))) ⟨Evl.Ex.new hD, upd_same⟩ (fun i H' _ h => sqL (h.1 _ _ hl)) ?_ ?_
      · rintro i y H' hi ⟨e1, h1⟩
        obtain ⟨b, hb, hB⟩ := hE.back hi
        refine ⟨rfl, ?_⟩
        refine ⟨_, rfl, _, rfl, _, _, a, b, rfl, hA.mono e1, hB.mono e1, fun v H2 e2 hv => ?_⟩
        subst hv
        have il := (List.getElem?_eq_some_iff.mp hb).1
        refine ⟨_, e2 _ _ h1, small1000 (by simp; omega), Evl.Ex.mut (e1.trans e2) hD, ?_⟩
        rw [List.take_add_one, hb]
        simp only [Option.toList_some, List.map_append, List.map_cons, List.map_nil]
        exact upd_same
      · rintro H' ⟨e1, h1⟩
        rw [hE.1, List.take_length] at h1
        refine ⟨Dl, as.map (twinOf a), rfl, sqL h1, _, rfl, ?_⟩
        refine k.go e1 ?_
        unfold lonelyIn
        rw [tn] at c1
        rw [c1, List.any_map]
        rfl
    · refine k.go (Evl.Ex.refl _) ?_
      unfold lonelyIn
      rw [tn] at c1
      rw [c1]
      rfl
/-! ### Act's __init__, twin_of -/
theorem putF_len (f : Str) (v : V) : ∀ fs : List (Str × V), (putF f v fs).length ≤ fs.length + 1
  | [] => by show [(f, v)].length ≤ _; simp
  | (g, x) :: r => by
    by_cases c : g = f
    · subst c
      rw [put_here]
      simp
    · rw [put_past c]
      have := putF_len f v r
      simp only [List.length_cons]
      omega
theorem putF_small {f : Str} {v : V} {fs : List (Str × V)} {m : Nat} (h : fs.length ≤ m) : (putF f v fs).length ≤ m + 1 := Nat.le_trans (putF_len f v fs) (by omega)
def sp_Act_init (n : Nm) : Sp := fun vs H Q _ => ∃ (p dx pp pw : Addr) (t l : Int), vs = [.ref p, .ref pp, .ref pw, .int t, .int l] ∧ H p = some (.ins n.C_Act dx []) ∧
  ∀ H' : Hp, H' p = some (.ins n.C_Act dx [("pays", .ref pp), ("weights", .ref pw), ("turn", .int t), ("locks", .int l)]) → (∀ b o, H b = some o → b ≠ p → H' b = some o) → Q .non H'
theorem ok_Act_init (D : Ds n K mg) : FnOk P w K mg base CX0 1 n.f_Act n.fd_Act P_Act___init__ (sp_Act_init n) := by
  refine D.c_Act.F.ok sc_Act___init__ (fun vs H Q E h => ?_) (fun cdv A outer s H vs Q E hr h => ?_)
  · obtain ⟨p, dx, pp, pw, t, l, rfl, _⟩ := h
    rfl
  · obtain ⟨p, dx, pp, pw, t, l, rfl, hp, k⟩ := h
    refine ⟨_, (pss_cons (ps_fld (pv 0) (pv 1) rfl)
      (pss_cons (ps_fld (pv 0) (pv 2) rfl)
      (pss_cons (ps_fld (pv 0) (pv 3) rfl)
      (pss_one (ps_fld (pv 0) (pv 4) rfl))))), ?_⟩
    refine ⟨_, rfl, _, rfl, p, n.C_Act, dx, _, rfl, hp, D.c_Act.cl, D.Act_pays, (by show 0 < 1000; decide), ?_⟩
    refine ⟨_, rfl, _, rfl, p, n.C_Act, dx, _, rfl, upd_same, D.c_Act.cl, D.Act_weights, (by show 1 < 1000; decide), ?_⟩
    refine ⟨_, rfl, _, rfl, p, n.C_Act, dx, _, rfl, upd_same, D.c_Act.cl, D.Act_turn, Nat.lt_of_le_of_lt (putF_small (putF_small (m := 0) (Nat.le_refl _))) (by decide), ?_⟩
    refine ⟨_, rfl, _, rfl, p, n.C_Act, dx, _, rfl, upd_same, D.c_Act.cl, D.Act_locks, Nat.lt_of_le_of_lt (putF_small (putF_small (putF_small (m := 0) (Nat.le_refl _)))) (by decide), ?_⟩
    refine k _ ?_ fun b o e hb => by
      rw [upd_ne hb, upd_ne hb, upd_ne hb, upd_ne hb]
      exact e
    refine Eq.trans upd_same (congrArg (fun q => some (HO.ins n.C_Act dx q)) ?_)
    have e1 : putF "weights" (V.ref pw) [(("pays" : Str), V.ref pp)] = [(("pays" : Str), V.ref pp), ("weights", V.ref pw)] := (put_past (by decide +kernel)).trans rfl
    have e2 : putF "turn" (V.int t) [(("pays" : Str), V.ref pp), ("weights", V.ref pw)] = [(("pays" : Str), V.ref pp), ("weights", V.ref pw), ("turn", V.int t)] := (put_past (by decide +kernel)).trans (congrArg _ ((put_past (by decide +kernel)).trans rfl))
    have e3 : putF "locks" (V.int l) [(("pays" : Str), V.ref pp), ("weights", V.ref pw), ("turn", V.int t)] = [(("pays" : Str), V.ref pp), ("weights", V.ref pw), ("turn", V.int t), ("locks", V.int l)] := (put_past (by decide +kernel)).trans (congrArg _ ((put_past (by decide +kernel)).trans (congrArg _ ((put_past (by decide +kernel)).trans rfl))))
    show putF "locks" (V.int l) (putF "turn" (V.int t) (putF "weights" (V.ref pw) [(("pays" : Str), V.ref pp)])) = _
    rw [e1, e2, e3]
/-- a new act, as tMake asks: from lists that stand -/
theorem made_act {n : Nm} {H : Hp} {pp pw x dx : Addr} {a : Kp379.Act} {Q : VK} {E : XK} (hpp : H pp = some (.lst (a.pays.map V.int))) (hpw : H pw = some (.lst (natV a.to))) (nx : H x = none) (nd : H dx = none) (ne : dx ≠ x)
    (k : RetR (IsAct n.C_Act a) H Q) : sp_Act_init n [.ref x, .ref pp, .ref pw, .int (a.turn : Int), .int (b2 a.lock)] (upd (upd H dx (.own x)) x (.ins n.C_Act dx [])) (fun v H2 => v = .non ∧ Q (.ref x) H2) E := by
  refine ⟨x, dx, pp, pw, _, _, rfl, upd_same, fun H' h1 h2 => ⟨rfl, ?_⟩⟩
  have e : Ex H H' := Same.made nx nd h2
  exact k.go e ⟨x, dx, pp, pw, rfl, h1, e _ _ hpp, e _ _ hpw⟩
/-- a new act over the same two lists -/
def sp_twin_of (n : Nm) : Sp := fun vs H Q _ => ∃ (p dx pp pw : Addr) (a : Kp379.Act), vs = [.ref p] ∧ H p = some (.ins n.C_Act dx (actF pp pw a)) ∧
  ∀ (x dy : Addr) (H2 : Hp), Ex H H2 → H x = none → H2 x = some (.ins n.C_Act dy (actF pp pw { a with turn := 0, lock := false })) → Q (.ref x) H2
theorem ok_twin_of (D : Ds n K mg) : FnOk P w K mg base CX0 3 n.f_twin_of n.fd_twin_of P_twin_of (sp_twin_of n) := by
  have G_Act := ok_Act_init (P := P) (w := w) (base := base) D
  refine D.d_twin_of.F.ok sc_twin_of (fun vs H Q E h => ?_) (fun cdv A outer s H vs Q E hr h => ?_)
  · obtain ⟨p, dx, pp, pw, a, rfl, _⟩ := h
    rfl
  · obtain ⟨p, dx, pp, pw, a, rfl, hp, k⟩ := h
    refine ⟨_, (pss_one (ps_ret (pe_make D.c_Act.M G_Act hr rfl D.c_Act.g D.c_Act.b .nil pass0 (pa_cons (pe_fld (pv 0) rfl) (pa_cons (pe_fld (pv 0) rfl) (pa_cons pe_int (pa_cons pe_int pa_nil))))))), ?_⟩
    refine ⟨_, rfl, p, n.C_Act, dx, _, _, rfl, hp, D.c_Act.cl, D.Act_pays, actF_pays, _, rfl, p, n.C_Act, dx, _, _, rfl, hp, D.c_Act.cl, D.Act_weights, actF_weights, ?_⟩
    intro x dy nx nd ne
    exact ⟨x, dy, pp, pw, 0, 0, rfl, upd_same, fun H' h1 h2 => ⟨rfl, k x dy H' (Same.made nx nd h2) nx h1⟩⟩
end
end CI
namespace CI
open PySem PySem.Spec PyProof.Rows L2
open Evl (Ex fresh_back)
open Kp379 (Stand)
/-- the lonely ones of the first j acts at a place, told with the place -/
def lonelyUpTo (as : List Kp379.Act) (p j : Nat) : List Int := ((List.range j).filter fun i => lonelyIn as (as.getD i ⟨[], [], 0, false⟩)).flatMap fun (i : Nat) => [(p : Int), (i : Int)]
def lonelyTo (wd : Kp379.World) (i : Nat) : List Int := (List.range i).flatMap fun p => lonelyUpTo (Kp379.actsAt wd p) p (Kp379.actsAt wd p).length
theorem lonely_flat (wd : Kp379.World) : (Kp380.lonely wd).flatMap (fun x => [(x.1 : Int), (x.2 : Int)]) = lonelyTo wd wd.n := by
  unfold Kp380.lonely lonelyTo
  rw [List.flatMap_assoc]
  congr 1
  funext p
  rw [List.flatMap_map]
  rfl
theorem lonelyUpTo_succ (as : List Kp379.Act) (p j : Nat) : lonelyUpTo as p (j + 1) = lonelyUpTo as p j ++ (if lonelyIn as (as.getD j ⟨[], [], 0, false⟩) = true then [(p : Int), (j : Int)] else []) := by
  unfold lonelyUpTo
  rw [List.range_succ, List.filter_append, List.flatMap_append, List.filter_cons]
  split <;> simp
theorem lonelyUpTo_len (as : List Kp379.Act) (p : Nat) : ∀ j, (lonelyUpTo as p j).length ≤ 2 * j
  | 0 => by simp [lonelyUpTo]
  | j + 1 => by
    have ih := lonelyUpTo_len as p j
    rw [lonelyUpTo_succ, List.length_append]
    split <;> simp <;> omega
theorem lonelyTo_succ (wd : Kp379.World) (i : Nat) : lonelyTo wd (i + 1) = lonelyTo wd i ++ lonelyUpTo (Kp379.actsAt wd i) i (Kp379.actsAt wd i).length := by
  unfold lonelyTo
  rw [List.range_succ, List.flatMap_append]
  simp
theorem lonelyTo_len {wd : Kp379.World} (ww : WfW wd) : ∀ i, i ≤ wd.n → (lonelyTo wd i).length ≤ 6 * i
  | 0, _ => by simp [lonelyTo]
  | i + 1, h => by
    have ih := lonelyTo_len ww i (by omega)
    have h2 := lonelyUpTo_len (Kp379.actsAt wd i) i (Kp379.actsAt wd i).length
    have h3 := (ww.at_ (p := i) (by omega)).2.1
    rw [lonelyTo_succ, List.length_append]
    omega
section
variable {P : Program} {w : World} {K : PySem.W.Frag} {mg : Str → Option Value} {base : Heap} {n : Nm}
def IsInts (ns : List Int) (v : V) (H : Hp) : Prop := ∃ p, v = .ref p ∧ H p = some (.lst (ns.map V.int))
theorem IsInts.mono {ns : List Int} {v : V} {H H' : Hp} (e : Ex H H') (h : IsInts ns v H) : IsInts ns v H' := by
  obtain ⟨p, rfl, hp⟩ := h
  exact ⟨p, rfl, e _ _ hp⟩
/-! ### lonely_acts -/
def sp_lonely_acts (n : Nm) : Sp := fun vs H Q _ => ∃ (v : V) (wd : Kp379.World), vs = [v] ∧ HRead n wd v H ∧ WfW wd ∧ (∀ v p H2, Ex H H2 → v = .ref p → H p = none → H2 p = some (.lst ((lonelyTo wd wd.n).map V.int)) → Q v H2)
theorem ok_lonely_acts (D : Ds n K mg) : FnOk P w K mg base CX0 3 n.f_lonely_acts n.fd_lonely_acts P_lonely_acts (sp_lonely_acts n) := by
  have G_is_lonely := ok_is_lonely (P := P) (w := w) (base := base) D
  refine D.d_lonely_acts.F.ok sc_lonely_acts (fun vs H Q E h => ?_) (fun cdv A outer s H vs Q E hr h => ?_)
  · obtain ⟨v, wd, rfl, _⟩ := h
    rfl
  · obtain ⟨v, wd, rfl, hH, ww, k⟩ := h
    refine ⟨_, (pss_cons (ps_set (i := 1) sc_lonely_acts.nd rfl (Or.inl rfl) (pe_lst pa_nil))
      (pss_cons (ps_for PassesOwn.never rfl (pi_enum (by rfl) D.n_enumerate (pa_cons (pe_fld (pv 0) rfl) pa_nil)) (pg_tup rfl (pgs_cons (pg_name (i := 2) sc_lonely_acts.nd rfl (Or.inl rfl)) (pgs_cons (pg_name (i := 3) sc_lonely_acts.nd rfl (Or.inl rfl)) pgs_nil)))
        (pss_one (ps_for PassesOwn.never rfl (pi_enum (by rfl) D.n_enumerate (pa_cons (pv 3) pa_nil)) (pg_tup rfl (pgs_cons (pg_name (i := 4) sc_lonely_acts.nd rfl (Or.inl rfl)) (pgs_cons (pg_name (i := 5) sc_lonely_acts.nd rfl (Or.inl rfl)) pgs_nil)))
          (pss_one (ps_if (pt_val (pe_call G_is_lonely hr rfl D.d_is_lonely.g D.d_is_lonely.F.kp D.d_is_lonely.b .nil pass0 (pa_cons (pv 5) (pa_cons (pv 3) pa_nil))))
            (pss_cons (ps_expr (pe_bm PySem.F.plainAttrs_list PySem.F.slot_list_append PySem.F.type_list_append mt_append (pv 1) (pa_cons (pv 2) pa_nil)))
            (pss_one (ps_expr (pe_bm PySem.F.plainAttrs_list PySem.F.slot_list_append PySem.F.type_list_append mt_append (pv 1) (pa_cons (pv 4) pa_nil)))))
            pss_nil)))))
      (pss_one (ps_ret (pv 1))))), ?_⟩
    obtain ⟨p, dx, fs, va, rfl, hp, f1, f2, f3, pa, vas, rfl, hpa, hE⟩ := hH
    have n4 := ww.n4
    have vl : vas.length = wd.n := by rw [hE.1, ww.al]
    refine ⟨(by show 0 ≤ sizeLine; decide), fun l hl => ?_⟩
    have e0 : Ex H (upd H l (.lst [])) := Evl.Ex.new hl
    refine ⟨_, rfl, p, n.C_House, dx, _, _, rfl, e0 _ _ hp, D.c_House.cl, D.House_acts, f3, pa, vas, rfl, sqL (e0 _ _ hpa), for_it walk_enum (fun i σ H' => Ex H H' ∧ H' l = some (.lst ((lonelyTo wd i).map V.int)) ∧ ∃ (o2 o3 o4 o5 : Option V),
      σ = [some (.ref p), some (.ref l), o2, o3, o4, o5]) ⟨e0, upd_same, none, none, none, none, rfl⟩ (fun i σ H' _ h => sqL (h.1 _ _ hpa)) ?_ ?_⟩
    · rintro i v σ H' H'' hi ⟨e1, h1, o2, o3, o4, o5, rfl⟩ ⟨Tp, y1, y2, rfl, hTp, rfl, e3, e4⟩
      obtain rfl : V.int (i : Int) = y1 := Option.some.inj e3
      have hin : i < wd.n := by omega
      obtain ⟨g1, g2, g3⟩ := ww.at_ hin
      obtain ⟨y2', hy2, hL⟩ := hE.2 _ _ g1
      obtain rfl : y2' = y2 := Option.some.inj (hy2.symm.trans e4)
      have hL0 := hL
      obtain ⟨pl, vls, rfl, hpl, hEl⟩ := hL
      have nT : l ≠ Tp := ne_of_none h1 hTp
      have e2 : Ex H' (upd H' Tp (.tup [.int (i : Int), .ref pl])) := Evl.Ex.new hTp
      have h1' := e2 _ _ h1
      refine ⟨Tp, _, rfl, sqT upd_same, rfl, _, _, rfl, _, _, rfl, rfl, ?_⟩
      refine ⟨_, rfl, pl, vls, rfl, sqL (e2 _ _ (e1 _ _ hpl)), for_it walk_enum (fun j σ H3 => Ex H H3 ∧ H3 l = some (.lst ((lonelyTo wd i ++ lonelyUpTo (Kp379.actsAt wd i) i j).map V.int)) ∧ ∃ (o4 o5 : Option V),
        σ = [some (.ref p), some (.ref l), some (.int (i : Int)), some (.ref pl), o4, o5]) ⟨e1.trans e2, ?_, o4, o5, rfl⟩ (fun j σ H3 _ h => sqL (h.1 _ _ hpl)) ?_ ?_⟩
      · have : lonelyTo wd i ++ lonelyUpTo (Kp379.actsAt wd i) i 0 = lonelyTo wd i := by simp [lonelyUpTo]
        rw [this]
        exact h1'
      · rintro j v σ H3 H4 hj ⟨e5, h5, o4, o5, rfl⟩ ⟨Tq, z1, z2, rfl, hTq, rfl, e6, e7⟩
        obtain rfl : V.int (j : Int) = z1 := Option.some.inj e6
        obtain ⟨a, ha, hA⟩ := hEl.back e7
        have hjl := (List.getElem?_eq_some_iff.mp ha).1
        have e8 : Ex H3 (upd H3 Tq (.tup [.int (j : Int), z2])) := Evl.Ex.new hTq
        have ga : (Kp379.actsAt wd i).getD j ⟨[], [], 0, false⟩ = a := by rw [List.getD_eq_getElem?_getD, ha]; rfl
        refine ⟨Tq, _, rfl, sqT upd_same, rfl, _, _, rfl, _, _, rfl, rfl, ?_⟩
        refine ⟨_, rfl, _, rfl, _, _, a, _, rfl, hA.mono (e5.trans e8), hL0.mono (fun a v ha => ha.mono (e5.trans e8)) (e5.trans e8), by omega, fun v H5 e9 hv => ?_⟩
        subst hv
        have h6 := e9 _ _ (e8 _ _ h5)
        have eA : Ex H H5 := (e5.trans e8).trans e9
        have len1 := lonelyTo_len ww i (by omega)
        have len2 := lonelyUpTo_len (Kp379.actsAt wd i) i j
        refine ⟨_, rfl, ?_⟩
        refine if_c (fun c => ?_) (fun c => ?_)
        · refine ⟨_, rfl, .inl ⟨rfl, _, sqL h6⟩, _, rfl, l, _, _, rfl, rfl, h6, small1000 (by simp; omega), ?_⟩
          refine ⟨_, rfl, .inl ⟨rfl, _, sqL upd_same⟩, _, rfl, l, _, _, rfl, rfl, upd_same, small1000 (by simp; omega), ?_⟩
          refine ⟨Evl.Ex.mut (Evl.Ex.mut eA hl) hl, ?_, _, _, rfl⟩
          rw [lonelyUpTo_succ, ga, if_pos c]
          rw [upd_same]
          simp
        · refine ⟨eA, ?_, _, _, rfl⟩
          rw [lonelyUpTo_succ, ga, if_neg (by rw [c]; decide), List.append_nil]
          exact h6
      · rintro σ H3 ⟨e5, h5, o4, o5, rfl⟩
        refine ⟨e5, ?_, _, _, _, _, rfl⟩
        rw [lonelyTo_succ]
        rw [hEl.1] at h5
        exact h5
    · rintro σ H' ⟨e1, h1, o2, o3, o4, o5, rfl⟩
      rw [vl] at h1
      exact ⟨_, rfl, k _ l H' e1 rfl hl h1⟩
end
end CI
namespace CI
open PySem PySem.Spec PyProof.Rows L2
open Evl (Ex fresh_back)
open Kp379 (Stand)
section
variable {P : Program} {w : World} {K : PySem.W.Frag} {mg : Str → Option Value} {base : Heap} {n : Nm}
/-! ### has_place, has_self, has_act, is_begun -/
def sp_has_place (n : Nm) : Sp := fun vs H Q _ => ∃ (v : V) (wd : Kp379.World) (p : Nat), vs = [v, .int (p : Int)] ∧ HRead n wd v H ∧ RetR (fun v _ => v = .bl (Kp379.isPlace wd p)) H Q
theorem ok_has_place (D : Ds n K mg) : FnOk P w K mg base CX0 1 n.f_has_place n.fd_has_place P_has_place (sp_has_place n) := by
  refine D.d_has_place.F.ok sc_has_place (fun vs H Q E h => ?_) (fun cdv A outer s H vs Q E hr h => ?_)
  · obtain ⟨v, wd, p, rfl, _⟩ := h
    rfl
  · obtain ⟨v, wd, q, rfl, ⟨p, dx, fs, va, rfl, hp, f1, f2, f3, f4⟩, k⟩ := h
    refine ⟨_, (pss_one (ps_ret (pe_cmpR op_lt (pv 1) (pe_fld (pv 0) rfl) (nomark _)))), ?_⟩
    refine ⟨_, rfl, _, rfl, p, n.C_House, dx, _, _, rfl, hp, D.c_House.cl, D.House_places, f1, _, _, rfl, rfl, k.go (Evl.Ex.refl _) ?_⟩
    show V.bl (decide ((q : Int) < (wd.n : Int))) = .bl (decide (q < wd.n))
    congr 1
    exact decide_eq_decide.mpr (by omega)
def sp_has_self (n : Nm) : Sp := fun vs H Q _ => ∃ (v : V) (wd : Kp379.World) (p : Nat), vs = [v, .int (p : Int)] ∧ HRead n wd v H ∧ RetR (fun v _ => v = .bl (Kp379.isSelf wd p)) H Q
theorem ok_has_self (D : Ds n K mg) : FnOk P w K mg base CX0 1 n.f_has_self n.fd_has_self P_has_self (sp_has_self n) := by
  refine D.d_has_self.F.ok sc_has_self (fun vs H Q E h => ?_) (fun cdv A outer s H vs Q E hr h => ?_)
  · obtain ⟨v, wd, p, rfl, _⟩ := h
    rfl
  · obtain ⟨v, wd, q, rfl, ⟨p, dx, fs, va, rfl, hp, f1, f2, f3, f4⟩, k⟩ := h
    refine ⟨_, (pss_one (ps_ret (pe_cmpR op_lt (pv 1) (pe_fld (pv 0) rfl) (nomark _)))), ?_⟩
    refine ⟨_, rfl, _, rfl, p, n.C_House, dx, _, _, rfl, hp, D.c_House.cl, D.House_selves, f2, _, _, rfl, rfl, k.go (Evl.Ex.refl _) ?_⟩
    show V.bl (decide ((q : Int) < (wd.v : Int))) = .bl (decide (q < wd.v))
    congr 1
    exact decide_eq_decide.mpr (by omega)
def sp_has_act (n : Nm) : Sp := fun vs H Q _ => ∃ (v : V) (wd : Kp379.World) (p a : Nat), vs = [v, .int (p : Int), .int (a : Int)] ∧ HRead n wd v H ∧ WfW wd ∧ RetR (fun v _ => v = .bl (Kp379.isAct wd p a)) H Q
theorem ok_has_act (D : Ds n K mg) : FnOk P w K mg base CX0 2 n.f_has_act n.fd_has_act P_has_act (sp_has_act n) := by
  have G_has_place := ok_has_place (P := P) (w := w) (base := base) D
  refine D.d_has_act.F.ok sc_has_act (fun vs H Q E h => ?_) (fun cdv A outer s H vs Q E hr h => ?_)
  · obtain ⟨v, wd, p, a, rfl, _⟩ := h
    rfl
  · obtain ⟨v, wd, q, a, rfl, hH, ww, k⟩ := h
    refine ⟨_, (pss_one (ps_ret (pe_and (pe_call G_has_place hr rfl D.d_has_place.g D.d_has_place.F.kp D.d_has_place.b .nil pass0 (pa_cons (pv 0) (pa_cons (pv 1) pa_nil))) (pe_one (pe_cmpR op_lt (pv 2) (pe_callB call_len_seq (by rfl) D.n_len PySem.boot_len (pa_cons (pe_ix ix_list (pe_fld (pv 0) rfl) (pv 1) (fun _ _ => rfl)) pa_nil)) (nomark _)))))), ?_⟩
    have hH' := hH
    obtain ⟨p, dx, fs, va, rfl, hp, f1, f2, f3, pa, vas, rfl, hpa, hE⟩ := hH'
    refine ⟨_, rfl, _, rfl, _, wd, q, rfl, hH, fun v H1 e1 hv => ?_⟩
    subst hv
    refine ⟨_, rfl, if_c (fun c => ?_) (fun c => ?_)⟩
    · have hq : q < wd.n := of_decide_eq_true c
      obtain ⟨g1, g2, g3⟩ := ww.at_ hq
      obtain ⟨vl, hvl, pl, vls, rfl, hpl, hEl⟩ := hE.2 _ _ g1
      refine ⟨_, rfl, _, rfl, p, n.C_House, dx, _, _, rfl, e1 _ _ hp, D.c_House.cl, D.House_acts, f3, _, rfl, pa, _, _, _, rfl, rfl, sqL (e1 _ _ hpa), atI_nat hvl, pl, vls, rfl, Or.inl (sqL (e1 _ _ hpl)), _, _, rfl, rfl, k.go e1 ?_⟩
      show V.bl (decide ((a : Int) < (vls.length : Int))) = .bl (Kp379.isAct wd q a)
      unfold Kp379.isAct
      rw [c, hEl.1]
      congr 1
      rw [Bool.true_and]
      exact decide_eq_decide.mpr (by omega)
    · refine k.go e1 ?_
      unfold Kp379.isAct
      rw [c]
      rfl
def sp_is_begun (n : Nm) : Sp := fun vs H Q _ => ∃ (p dx : Addr) (fs : List (Str × V)) (m : Nat), vs = [.ref p] ∧ H p = some (.ins n.C_House dx fs) ∧ fs.lookup ("places" : Str) = some (.int (m : Int)) ∧ RetR (fun v _ => v = .bl (decide (0 < m))) H Q
theorem ok_is_begun (D : Ds n K mg) : FnOk P w K mg base CX0 1 n.f_is_begun n.fd_is_begun P_is_begun (sp_is_begun n) := by
  refine D.d_is_begun.F.ok sc_is_begun (fun vs H Q E h => ?_) (fun cdv A outer s H vs Q E hr h => ?_)
  · obtain ⟨p, dx, fs, m, rfl, _⟩ := h
    rfl
  · obtain ⟨p, dx, fs, m, rfl, hp, f1, k⟩ := h
    refine ⟨_, (pss_one (ps_ret (pe_cmpR op_gt (pe_fld (pv 0) rfl) pe_int (nomark _)))), ?_⟩
    refine ⟨_, rfl, p, n.C_House, dx, _, _, rfl, hp, D.c_House.cl, D.House_places, f1, _, _, rfl, rfl, k.go (Evl.Ex.refl _) ?_⟩
    show V.bl (decide ((0 : Int) < (m : Int))) = .bl (decide (0 < m))
    congr 1
    exact decide_eq_decide.mpr (by omega)
def sp_may_go (_n : Nm) : Sp := fun vs H Q _ => ∃ (k : Nat), vs = [.int (k : Int)] ∧ RetR (fun v _ => v = .bl (decide (1 ≤ k) && decide (k ≤ 4))) H Q
theorem ok_may_go (D : Ds n K mg) : FnOk P w K mg base CX0 1 n.f_may_go n.fd_may_go P_may_go (sp_may_go n) := by
  refine D.d_may_go.F.ok sc_may_go (fun vs H Q E h => ?_) (fun cdv A outer s H vs Q E hr h => ?_)
  · obtain ⟨k, rfl, _⟩ := h
    rfl
  · obtain ⟨k, rfl, kQ⟩ := h
    refine ⟨_, (pss_one (ps_ret (pe_chain op_le op_le pe_int (pv 0) (pe_const rfl D.g_MOST_STEPS)))), ?_⟩
    refine ⟨_, rfl, _, _, rfl, rfl, _, rfl, ?_⟩
    refine if_c (fun c => ?_) (fun c => ?_)
    · refine ⟨_, _, rfl, rfl, kQ.go (Evl.Ex.refl _) ?_⟩
      have c' : 1 ≤ k := by have := of_decide_eq_true c; omega
      show V.bl (decide ((k : Int) ≤ 4)) = .bl (decide (1 ≤ k) && decide (k ≤ 4))
      rw [decide_eq_true c', Bool.true_and]
      congr 1
      exact decide_eq_decide.mpr (by omega)
    · refine kQ.go (Evl.Ex.refl _) ?_
      have c' : ¬ 1 ≤ k := by have := of_decide_eq_false c; omega
      show V.bl false = .bl (decide (1 ≤ k) && decide (k ≤ 4))
      rw [decide_eq_false c', Bool.false_and]
/-! ### all_between -/
def sp_all_between : Sp := fun vs H Q _ => ∃ (v : V) (ns : List Int) (lo hi : Int), vs = [v, .int lo, .int hi] ∧ IsInts ns v H ∧ ns.length ≤ 900 ∧ RetR (fun v _ => v = .bl (ns.all fun z => decide (lo ≤ z) && decide (z ≤ hi))) H Q
theorem ok_all_between (D : Ds n K mg) : FnOk P w K mg base CX0 1 n.f_all_between n.fd_all_between P_all_between sp_all_between := by
  refine D.d_all_between.F.ok sc_all_between (fun vs H Q E h => ?_) (fun cdv A outer s H vs Q E hr h => ?_)
  · obtain ⟨v, ns, lo, hi, rfl, _⟩ := h
    rfl
  · obtain ⟨v, ns, lo, hi, rfl, ⟨p, rfl, hp⟩, hl, k⟩ := h
    refine ⟨_, (pss_one (ps_ret (pe_callB (cr_all rfl) (by rfl) D.n_all (by decide +kernel) (pa_cons (pe_lc (own := [("number", 3)]) (g := gName 3) (tt := tYes) rfl sc_all_between.nd (pi_list (pv 0)) (blkOk_by (own := [("number", 3)]) (N := N_all_between) (sc := defScope s_all_between) (by decide +kernel)) (fun _ _ _ _ _ => (pg_name (i := 3) sc_all_between.nd rfl (Or.inl rfl))) (fun _ _ _ _ _ => pts_nil) (fun _ _ _ _ _ => (pe_chain op_le op_le (pv 1) (pv 3) (pv 2)))) pa_nil)))), ?_⟩
    refine ⟨_, rfl, p, rfl, ⟨_, sqL hp⟩, fun Dl hD => ?_⟩
    refine lc_list (K := K) (a := p) (xs := ns.map V.int) (fun i H' => Ex H H' ∧ H' Dl = some (.lst (((ns.take i).map fun z => decide (lo ≤ z) && decide (z ≤ hi)).map V.bl))) ⟨Evl.Ex.new hD, upd_same⟩ (fun i H' _ h => sqL (h.1 _ _ hp)) ?_ ?_
    · rintro i y H' hi' ⟨e1, h1⟩
      obtain ⟨z, hz, rfl⟩ : ∃ z, ns[i]? = some z ∧ y = V.int z := by
        rw [List.getElem?_map] at hi'
        cases e : ns[i]? with
        | none => rw [e] at hi'; cases hi'
        | some z => rw [e] at hi'; exact ⟨z, rfl, (Option.some.inj hi').symm⟩
      have il := (List.getElem?_eq_some_iff.mp hz).1
      have fin : ∀ b : Bool, b = (decide (lo ≤ z) && decide (z ≤ hi)) → ∃ acc, H' Dl = some (.lst acc) ∧ acc.length < sizeLine ∧ (Ex H (upd H' Dl (.lst (acc ++ [.bl b]))) ∧ (upd H' Dl (.lst (acc ++ [.bl b]))) Dl = some (.lst (((ns.take (i + 1)).map fun z => decide (lo ≤ z) && decide (z ≤ hi)).map V.bl))) := by
        intro b hb
        refine ⟨_, h1, small1000 (by simp; omega), Evl.Ex.mut e1 hD, ?_⟩
        rw [List.take_add_one, hz, upd_same, hb]
        simp
      refine ⟨rfl, ?_⟩
      refine ⟨_, rfl, _, rfl, _, _, rfl, rfl, _, rfl, if_c (fun c => ?_) (fun c => ?_)⟩
      · refine ⟨_, rfl, _, _, rfl, rfl, fin _ ?_⟩
        rw [c]
        rfl
      · refine fin _ ?_
        rw [c]
        rfl
    · rintro H' ⟨e1, h1⟩
      rw [List.length_map, List.take_length] at h1
      refine ⟨Dl, _, rfl, sqL h1, k.go e1 ?_⟩
      rw [List.all_map]
      rfl
/-! ### is_act_row -/
theorem cut_to (xs : List V) (k : Nat) : cutV xs none (some (k : Int)) = xs.take k := by
  unfold cutV
  rw [HT.sIx_none, HT.sIx_nat, List.drop_zero, Nat.sub_zero, ← List.take_eq_take_min]
theorem cut_from (xs : List V) (k : Nat) : cutV xs (some (k : Int)) none = xs.drop k := by
  unfold cutV
  rw [HT.sIx_none, HT.sIx_nat]
  by_cases c : k ≤ xs.length
  · rw [Nat.min_eq_left c, List.take_of_length_le (by rw [List.length_drop]; omega)]
  · rw [Nat.min_eq_right (by omega), List.drop_eq_nil_of_le (Nat.le_refl _), List.drop_eq_nil_of_le (by omega)]
    simp
def sp_is_act_row (n : Nm) : Sp := fun vs H Q _ => ∃ (v vr : V) (wd : Kp379.World) (ns : List Int), vs = [v, vr] ∧ HRead n wd v H ∧ IsInts ns vr H ∧ ns.length ≤ 900 ∧ RetR (fun v _ => v = .bl (Kp379.readAct wd ns).isSome) H Q
theorem sum_pos_any : ∀ l : List Int, (l.all fun v => decide (0 ≤ v) && decide (v ≤ 9)) = true → decide (0 < l.sum) = l.any (fun v => decide (0 < v))
  | [], _ => rfl
  | x :: r, h => by
    simp only [List.all_cons, Bool.and_eq_true, decide_eq_true_eq] at h
    have ih := sum_pos_any r h.2
    have hs : 0 ≤ r.sum := by
      have h2 := h.2
      clear ih h
      induction r with
      | nil => decide
      | cons y s ih =>
        simp only [List.all_cons, Bool.and_eq_true, decide_eq_true_eq] at h2
        have := ih h2.2
        rw [List.sum_cons]
        omega
    rw [List.sum_cons, List.any_cons, ← ih]
    by_cases c1 : 0 < x <;> by_cases c2 : 0 < r.sum <;> simp [c1, c2] <;> omega
theorem readAct_isSome (wd : Kp379.World) (ns : List Int) : (Kp379.readAct wd ns).isSome = (decide (ns.length = wd.v + wd.n) && (((ns.take wd.v).all fun v => decide (-9 ≤ v) && decide (v ≤ 9)) && (((ns.drop wd.v).all fun v => decide (0 ≤ v) && decide (v ≤ 9)) && (ns.drop wd.v).any fun v => decide (0 < v)))) := by
  unfold Kp379.readAct
  simp only
  split
  · rename_i h
    obtain ⟨h1, h2, h3, h4⟩ := h
    rw [decide_eq_true h1, h2, h3, h4]
    rfl
  · rename_i h
    symm
    cases e1 : decide (ns.length = wd.v + wd.n) with
    | false => rfl
    | true =>
      cases e2 : (ns.take wd.v).all fun v => decide (-9 ≤ v) && decide (v ≤ 9) with
      | false => rfl
      | true =>
        cases e3 : (ns.drop wd.v).all fun v => decide (0 ≤ v) && decide (v ≤ 9) with
        | false => rfl
        | true =>
          cases e4 : (ns.drop wd.v).any fun v => decide (0 < v) with
          | false => rfl
          | true => exact absurd ⟨of_decide_eq_true e1, e2, e3, e4⟩ h
theorem ok_is_act_row (D : Ds n K mg) : FnOk P w K mg base CX0 2 n.f_is_act_row n.fd_is_act_row P_is_act_row (sp_is_act_row n) := by
  have G_all_between := ok_all_between (P := P) (w := w) (base := base) D
  refine D.d_is_act_row.F.ok sc_is_act_row (fun vs H Q E h => ?_) (fun cdv A outer s H vs Q E hr h => ?_)
  · obtain ⟨v, vr, wd, ns, rfl, _⟩ := h
    rfl
  · obtain ⟨v, vr, wd, ns, rfl, hH, ⟨r, rfl, hr0⟩, hl, k⟩ := h
    refine ⟨_, (pss_cons (ps_if (pt_cmpR op_ne (pe_callB call_len_seq (by rfl) D.n_len PySem.boot_len (pa_cons (pv 1) pa_nil)) (pe_op op_add (pe_fld (pv 0) rfl) (pe_fld (pv 0) rfl)) (nomark _))
        (pss_one (ps_ret pe_bl))
        pss_nil)
      (pss_cons (ps_set (i := 2) sc_is_act_row.nd rfl (Or.inl rfl) (pe_slice sl_list (pv 1) po_none (po_some (pe_fld (pv 0) rfl))))
      (pss_cons (ps_set (i := 3) sc_is_act_row.nd rfl (Or.inl rfl) (pe_slice sl_list (pv 1) (po_some (pe_fld (pv 0) rfl)) po_none))
      (pss_one (ps_ret (pe_and (pe_call G_all_between hr rfl D.d_all_between.g D.d_all_between.F.kp D.d_all_between.b .nil pass0 (pa_cons (pv 2) (pa_cons (pe_un un_neg pe_int) (pa_cons pe_int pa_nil)))) (pe_and (pe_call G_all_between hr rfl D.d_all_between.g D.d_all_between.F.kp D.d_all_between.b .nil pass0 (pa_cons (pv 3) (pa_cons pe_int (pa_cons pe_int pa_nil)))) (pe_one (pe_cmpR op_gt (pe_callB (cr_sum rfl) (by rfl) D.n_sum (by decide +kernel) (pa_cons (pv 3) pa_nil)) pe_int (nomark _)))))))))), ?_⟩
    obtain ⟨p, dx, fs, va, rfl, hp, f1, f2, f3, f4⟩ := hH
    refine ⟨_, rfl, r, _, rfl, Or.inl (sqL hr0), _, rfl, p, n.C_House, dx, _, _, rfl, hp, D.c_House.cl, D.House_selves, f2, _, rfl, p, n.C_House, dx, _, _, rfl, hp, D.c_House.cl, D.House_places, f1, _, _, rfl, rfl, rfl, _, rfl, ?_⟩
    have ed : (!decide (V.int (((ns.map V.int).length : Nat) : Int) = V.int ((wd.v : Int) + (wd.n : Int)))) = !decide (ns.length = wd.v + wd.n) := by
      rw [List.length_map]
      congr 1
      refine decide_eq_decide.mpr ⟨fun z => ?_, fun z => ?_⟩
      · have := V.int.inj z
        omega
      · congr 1
        omega
    refine if_c (fun c => ?_) (fun c => ?_)
    · refine k.go (Evl.Ex.refl _) ?_
      rw [ed] at c
      rw [readAct_isSome]
      have : decide (ns.length = wd.v + wd.n) = false := by simpa using c
      rw [this]
      rfl
    · rw [ed] at c
      have hlen : decide (ns.length = wd.v + wd.n) = true := by simpa using c
      refine ⟨_, rfl, _, rfl, p, n.C_House, dx, _, _, rfl, hp, D.c_House.cl, D.House_selves, f2, _, rfl, r, _, rfl, sqL hr0, fun q1 hq1 => ?_⟩
      rw [cut_to, ← List.map_take]
      have e1 : Ex H (upd H q1 (.lst ((ns.take wd.v).map V.int))) := Evl.Ex.new hq1
      refine ⟨_, rfl, _, rfl, p, n.C_House, dx, _, _, rfl, e1 _ _ hp, D.c_House.cl, D.House_selves, f2, _, rfl, r, _, rfl, sqL (e1 _ _ hr0), fun q2 hq2 => ?_⟩
      rw [cut_from, ← List.map_drop]
      have e2 : Ex (upd H q1 (.lst ((ns.take wd.v).map V.int))) (upd (upd H q1 (.lst ((ns.take wd.v).map V.int))) q2 (.lst ((ns.drop wd.v).map V.int))) := Evl.Ex.new hq2
      have i1 : IsInts (ns.take wd.v) (.ref q1) (upd (upd H q1 (.lst ((ns.take wd.v).map V.int))) q2 (.lst ((ns.drop wd.v).map V.int))) := ⟨q1, rfl, e2 _ _ upd_same⟩
      refine ⟨_, rfl, _, rfl, _, ns.take wd.v, -9, 9, rfl, i1, by simp; omega, fun v H1 e3 hv => ?_⟩
      subst hv
      rw [readAct_isSome, hlen] at k
      refine ⟨_, rfl, if_c (fun c1 => ?_) (fun c1 => ?_)⟩
      · have i2 : IsInts (ns.drop wd.v) (.ref q2) H1 := ⟨q2, rfl, e3 _ _ upd_same⟩
        refine ⟨_, rfl, _, ns.drop wd.v, 0, 9, rfl, i2, by simp; omega, fun v H2 e4 hv => ?_⟩
        subst hv
        have e5 : Ex H H2 := ((e1.trans e2).trans e3).trans e4
        refine ⟨_, rfl, if_c (fun c2 => ?_) (fun c2 => ?_)⟩
        · refine ⟨_, rfl, q2, ns.drop wd.v, rfl, sqL (e4 _ _ (e3 _ _ upd_same)), _, _, rfl, rfl, k.go e5 ?_⟩
          rw [c1, c2]
          show V.bl (decide (0 < (ns.drop wd.v).sum)) = .bl (true && (true && (true && _)))
          rw [sum_pos_any _ c2]
          rfl
        · refine k.go e5 ?_
          rw [c1, c2]
          rfl
      · refine k.go ((e1.trans e2).trans e3) ?_
        rw [c1]
        rfl
end
end CI
namespace CI
open PySem PySem.Spec PyProof.Rows L2
open Evl (Ex fresh_back)
open Kp379 (Stand)
theorem total_take_succ {l : List Nat} {q : Nat} (h : q < l.length) : Kp346.total (l.take (q + 1)) = Kp346.total (l.take q) + l.getD q 0 := by
  rw [List.take_add_one, List.getElem?_eq_getElem h, List.getD_eq_getElem?_getD, List.getElem?_eq_getElem h]
  exact total_append _ _
def luckAt (ws : List Nat) (luck q : Nat) : Bool := decide (luck * Kp346.total ws < 1000 * Kp346.total (ws.take (q + 1)))
theorem goesTo_is {wd : Kp379.World} {a : Kp379.Act} {luck q : Nat} (hq : q < wd.n) (h1 : luckAt a.to luck q = true) (h2 : ∀ j, j < q → luckAt a.to luck j = false) : Kp381.goesTo wd a luck = q := by
  unfold Kp381.goesTo
  have e : (List.range wd.n).find? (luckAt a.to luck) = some q := by
    rw [List.find?_range_eq_some]
    refine ⟨h1, List.mem_range.mpr hq, fun j hj => ?_⟩
    rw [h2 j hj]
    rfl
  show ((List.range wd.n).find? (luckAt a.to luck)).getD 0 = q
  rw [e]
  rfl
section
variable {P : Program} {w : World} {K : PySem.W.Frag} {mg : Str → Option Value} {base : Heap} {n : Nm}
/-! ### place_by_luck -/
def sp_place_by_luck : Sp := fun vs H Q _ => ∃ (wd : Kp379.World) (a : Kp379.Act) (pw : Addr) (luck : Nat), vs = [.ref pw, .int (luck : Int)] ∧ H pw = some (.lst (natV a.to)) ∧ WfAct wd a ∧ wd.n ≤ 4 ∧ luck ≤ 999 ∧ RetR (fun v _ => v = .int ((Kp381.goesTo wd a luck : Nat) : Int) ∧ Kp381.goesTo wd a luck < wd.n) H Q
theorem ok_place_by_luck (D : Ds n K mg) : FnOk P w K mg base CX0 1 n.f_place_by_luck n.fd_place_by_luck P_place_by_luck sp_place_by_luck := by
  refine D.d_place_by_luck.F.ok sc_place_by_luck (fun vs H Q E h => ?_) (fun cdv A outer s H vs Q E hr h => ?_)
  · obtain ⟨wd, a, pw, luck, rfl, _⟩ := h
    rfl
  · obtain ⟨wd, a, pw, luck, rfl, hpw, wa, n4, hl, k⟩ := h
    refine ⟨_, (pss_cons (ps_set (i := 2) sc_place_by_luck.nd rfl (Or.inl rfl) (pe_callB (cr_sum rfl) (by rfl) D.n_sum (by decide +kernel) (pa_cons (pv 0) pa_nil)))
      (pss_cons (ps_set (i := 3) sc_place_by_luck.nd rfl (Or.inl rfl) pe_int)
      (pss_cons (ps_set (i := 4) sc_place_by_luck.nd rfl (Or.inl rfl) (pe_ix ix_list (pv 0) pe_int (fun _ _ => rfl)))
      (pss_cons (ps_while PassesOwn.never (pt_cmpR op_ge (pe_op op_mulW (pv 1) (pv 2)) (pe_op op_mulW pe_int (pv 4)) (nomark _))
        (pss_cons (ps_set (i := 3) sc_place_by_luck.nd rfl (Or.inl rfl) (pe_op op_add (pv 3) pe_int))
        (pss_one (ps_set (i := 4) sc_place_by_luck.nd rfl (Or.inl rfl) (pe_op op_add (pv 4) (pe_ix ix_list (pv 0) (pv 3) (fun _ _ => rfl)))))))
      (pss_one (ps_ret (pv 3))))))), ?_⟩
    have wl := wa.wl
    have wt := wa.wt
    have n0 : 0 < wd.n := by
      rcases Nat.eq_zero_or_pos wd.n with z | z
      · have : a.to = [] := List.length_eq_zero_iff.mp (by omega)
        rw [this] at wt
        exact absurd wt (by decide)
      · exact z
    have t36 : Kp346.total a.to ≤ 36 := by
      have h1 := total_le (k := 9) wa.wb
      omega
    have tl : ∀ q, Kp346.total (a.to.take q) ≤ 36 := fun q => by
      have h1 := total_le (k := 9) (l := a.to.take q) fun x hx => wa.wb x (List.mem_of_mem_take hx)
      rw [List.length_take] at h1
      omega
    have get : ∀ q, q < wd.n → (natV a.to)[q]? = some (V.int ((a.to.getD q 0 : Nat) : Int)) := by
      intro q hq
      unfold natV
      rw [List.getElem?_map, List.getElem?_eq_getElem (by omega), List.getD_eq_getElem?_getD, List.getElem?_eq_getElem (by omega)]
      rfl
    have t1 : Kp346.total (a.to.take 1) = a.to.getD 0 0 := by
      rw [total_take_succ (by omega)]
      show 0 + _ = _
      omega
    have big : ∀ {z : Int}, 0 ≤ z → z ≤ 100000 → z.natAbs < 2 ^ 64 := fun {z} h1 h2 => by
      have : (100000 : Nat) < 2 ^ 64 := by decide
      omega
    refine ⟨_, rfl, pw, a.to.map (fun (m : Nat) => (m : Int)), rfl, by rw [← natV_int]; exact sqL hpw, ?_⟩
    rw [natV_sum]
    refine ⟨_, rfl, pw, _, _, _, rfl, rfl, sqL hpw, atI_nat (j := 0) (get 0 n0), ?_⟩
    refine ⟨fun m σ H' => H' = H ∧ ∃ q, q < wd.n ∧ m = wd.n - q ∧ (∀ j, j < q → luckAt a.to luck j = false) ∧ σ = [some (.ref pw), some (.int (luck : Int)), some (.int ((Kp346.total a.to : Nat) : Int)), some (.int (q : Int)), some (.int ((Kp346.total (a.to.take (q + 1)) : Nat) : Int))], ⟨wd.n, rfl, 0, n0, rfl, fun j hj => by omega, ?_⟩, ?_⟩
    · rw [t1]
      rfl
    · rintro m σ H' ⟨rfl, q, hq, rfl, hj, rfl⟩
      have hT := tl (q + 1)
      refine ⟨_, rfl, _, rfl, _, _, rfl, rfl, wide_mul (big (by omega) (by omega)) (big (by omega) (by omega)) (by decide) (by decide) (by decide), _, rfl, _, _, rfl, rfl, wide_mul (big (by omega) (by omega)) (big (by omega) (by omega)) (by decide) (by decide) (by decide), _, _, rfl, rfl, _, rfl, ?_⟩
      by_cases c : luckAt a.to luck q = true
      · have c' : luck * Kp346.total a.to < 1000 * Kp346.total (a.to.take (q + 1)) := of_decide_eq_true c
        have ci : ¬ ((1000 : Int) * ((Kp346.total (a.to.take (q + 1)) : Nat) : Int) ≤ (luck : Int) * ((Kp346.total a.to : Nat) : Int)) := by
          rw [← Int.natCast_mul]
          omega
        refine if_f (decide_eq_false ci) ?_
        refine ⟨_, rfl, k.go (Evl.Ex.refl _) ?_⟩
        rw [goesTo_is hq c hj]
        exact ⟨rfl, hq⟩
      · have c' : ¬ luck * Kp346.total a.to < 1000 * Kp346.total (a.to.take (q + 1)) := fun z => c (decide_eq_true z)
        have ci : (1000 : Int) * ((Kp346.total (a.to.take (q + 1)) : Nat) : Int) ≤ (luck : Int) * ((Kp346.total a.to : Nat) : Int) := by
          rw [← Int.natCast_mul]
          omega
        have hq1 : q + 1 < wd.n := by
          rcases Nat.lt_or_ge (q + 1) wd.n with z | z
          · exact z
          · exfalso
            rw [List.take_of_length_le (by omega)] at c'
            have h5 : luck * Kp346.total a.to ≤ 999 * Kp346.total a.to := Nat.mul_le_mul_right _ hl
            omega
        refine if_t (decide_eq_true ci) ?_
        refine ⟨fun σ' H'' => H'' = H' ∧ σ' = [some (.ref pw), some (.int (luck : Int)), some (.int ((Kp346.total a.to : Nat) : Int)), some (.int ((q + 1 : Nat) : Int)), some (.int ((Kp346.total (a.to.take (q + 1 + 1)) : Nat) : Int))], ?_, ?_⟩
        · rintro σ' H'' ⟨rfl, rfl⟩
          refine ⟨wd.n - (q + 1), by omega, rfl, q + 1, hq1, rfl, fun j hj2 => ?_, rfl⟩
          by_cases cj : j = q
          · rw [cj]
            exact Bool.eq_false_iff.mpr c
          · exact hj j (by omega)
        · refine ⟨_, rfl, _, _, rfl, rfl, ?_⟩
          have eq1 : ((q : Int) + 1) = ((q + 1 : Nat) : Int) := by omega
          refine ⟨_, rfl, _, rfl, _, rfl, pw, _, _, _, rfl, rfl, sqL hpw, at_of eq1 (get (q + 1) hq1), _, _, rfl, rfl, rfl, ?_⟩
          have e2 : ((Kp346.total (a.to.take (q + 1)) : Nat) : Int) + ((a.to.getD (q + 1) 0 : Nat) : Int) = ((Kp346.total (a.to.take (q + 1 + 1)) : Nat) : Int) := by
            rw [total_take_succ (q := q + 1) (by omega)]
            omega
          show [some (V.ref pw), some (V.int (luck : Int)), some (V.int ((Kp346.total a.to : Nat) : Int)), some (V.int ((q : Int) + 1)), some (V.int (((Kp346.total (a.to.take (q + 1)) : Nat) : Int) + ((a.to.getD (q + 1) 0 : Nat) : Int)))] = _
          rw [eq1, e2]
end
end CI
/-! xs.extend(t), t a tuple: the layer has the rule for a list alone. -/
namespace CI
open PySem PySem.Spec PyProof.Rows L2
theorem extend_tup {la ta : Addr} {us ws : Array Value} {m1 m2 : Nat} {dt : Option Addr} {sl : Array (Option Value)} (short : ¬(!us.isEmpty && Builtin.List.listTooLong (us.size + ws.size)) = true) (fits1 : us.size ≤ sizeLine) (fits2 : (us ++ ws).size ≤ sizeLine + 1) :
    Meets (Builtin.«list.extend» ⟨[.ref la, .ref ta], []⟩) fun _ R s => s.heap.get? la = some { cls := .type "list", data := .seq us m1 } ∧ s.heap.get? ta = some { cls := .type "tuple", dict := dt, data := .seq ws m2, slots := sl } ∧
      R (.ok (.ret Value.none)) { s with heap := s.heap.update la (Obj.mapSeq fun x => x ++ ws), toks := s.toks } := by
  refine Meets.of_wp fun _ _ _ _ st given => ?_
  obtain ⟨hp, gens, drawn, toks, os⟩ := st
  obtain ⟨isL, isT, goes⟩ := given
  have q1 := AutoSeq1.idx_int
  have q2 := AutoSeq1.sub_tuple_tuple
  have q3 := AutoSeq1.sub_list_list
  have q4 := AutoSeq1.sub_tuple_list
  have q5 := AutoSeq1.sub_list_tuple
  wp_walk using (wpAny_updateSeq isL rfl (hz := fits1) (_hz' := fits2)), AutoSeq1.wpAny_loadPart' isL, AutoSeq1.wpAny_loadPart' isT
  exact ⟨_, rfl, goes⟩
def rExtendT : V → List V → Hp → VK → Prop := fun x vs H Q => ∃ l b xs zs, x = .ref l ∧ vs = [.ref b] ∧ H l = some (.lst xs) ∧ H b = some (.tup zs) ∧ xs.length + zs.length ≤ sizeLine ∧ Q .non (upd H l (.lst (xs ++ zs)))
theorem mt_extendT {X : Cx} : MtM X "list.extend" rExtendT := by
  intro pins s σ H o as ov avs Q inv relO relA asks
  obtain ⟨la, ta, xs, zs, rfl, rfl, atL, atT, room, goes⟩ := asks
  cases relO
  obtain ⟨u, rfl, relU⟩ := relA.one
  cases relU
  obtain ⟨_, us, m1, relX, lenX, isL⟩ := inv.lstM atL
  obtain ⟨_, ws, relZ, ob, isT, isCls, m2, isSeq⟩ := inv.hok ta _ atT
  obtain ⟨cls, dt, da, sl⟩ := ob
  cases isCls
  cases isSeq
  have lenZ := relZ.length
  have both : us.toArray.size + ws.toArray.size ≤ sizeLine := by simp only [List.size_toArray]; omega
  have fits2 : (us.toArray ++ ws.toArray).size ≤ sizeLine + 1 := by simp only [Array.size_append]; omega
  have short : ¬(!us.toArray.isEmpty && Builtin.List.listTooLong (us.toArray.size + ws.toArray.size)) = true := fun z => by
    simp only [notLongL both, Bool.and_false] at z
    cases z
  have meets := extend_tup (la := la) (ta := ta) (m1 := m1) (m2 := m2) (dt := dt) (sl := sl) short (by simp only [List.size_toArray]; omega) fits2
  refine call_meets F.slot_list_extend ⟨_, isL, rfl⟩ F.entry_list_extend (F.args_list_extend_2 _ _) meets ⟨isL, isT, .non, _, ?_, rfl, goes⟩
  exact inv.lset (its' := us ++ ws) atL isL (by simp) (relX.append relZ) (by simp only [List.length_append]; omega)
end CI
/-! The house as it lies in the heap, what may change and what stays. -/
namespace CI
open PySem PySem.Spec PyProof.Rows L2
open Evl (Ex fresh_back)
open Kp379 (Stand)
/-- the heap without some addresses -/
def er (S : List Addr) (H : Hp) : Hp := fun a => if a ∈ S then none else H a
theorem er_some {S : List Addr} {H : Hp} {a : Addr} {o : HO} (h : er S H a = some o) : H a = some o ∧ a ∉ S := by
  unfold er at h
  split at h
  · cases h
  · exact ⟨h, by assumption⟩
theorem er_of {S : List Addr} {H : Hp} {a : Addr} {o : HO} (h : H a = some o) (n : a ∉ S) : er S H a = some o := by
  unfold er
  rw [if_neg n]
  exact h
theorem er_ex (S : List Addr) (H : Hp) : Ex (er S H) H := fun _ _ h => (er_some h).1
theorem er_mono {S : List Addr} {H H' : Hp} (e : Ex H H') : Ex (er S H) (er S H') := fun _ _ h => er_of (e _ _ (er_some h).1) (er_some h).2
/-- what a change leaves: all that stood elsewhere; what may change later stood among those, or is new -/
def Kept (S S' : List Addr) (H H' : Hp) : Prop := (∀ b o, H b = some o → b ∉ S → H' b = some o) ∧ ∀ b, b ∈ S' → b ∈ S ∨ H b = none
theorem Kept.of_ex {S : List Addr} {H H' : Hp} (e : Ex H H') : Kept S S H H' := ⟨fun b o h _ => e b o h, fun b h => Or.inl h⟩
theorem Kept.er {S S' : List Addr} {H H' : Hp} (k : Kept S S' H H') : Ex (er S H) (er S' H') := fun a o h => by
  obtain ⟨h1, h2⟩ := er_some h
  refine er_of (k.1 a o h1 h2) fun m => ?_
  rcases k.2 a m with z | z
  · exact h2 z
  · rw [h1] at z
    cases z
theorem Kept.trans {S S' S'' : List Addr} {H H' H'' : Hp} (a : Kept S S' H H') (b : Kept S' S'' H' H'') : Kept S S'' H H'' := by
  refine ⟨fun x o h n => b.1 x o (a.1 x o h n) fun m => ?_, fun x m => ?_⟩
  · rcases a.2 x m with z | z
    · exact n z
    · rw [h] at z
      cases z
  · rcases b.2 x m with z | z
    · exact a.2 x z
    · by_cases c : x ∈ S
      · exact Or.inl c
      · refine Or.inr ?_
        cases e : H x with
        | none => rfl
        | some o =>
          rw [a.1 x o e c] at z
          cases z
/-! ### entries -/
def entF (e : Kp381.Entry) (pb pe pp : Addr) : List (Str × V) := [("number", .int (e.a : Int)), ("steps", .int (e.k : Int)), ("before", .ref pb), ("behind", .ref pe), ("pays", .ref pp)]
def IsEntry (n : Nm) (e : Kp381.Entry) (v : V) (H : Hp) : Prop := ∃ p dx pb pe pp, v = .ref p ∧ H p = some (.ins n.C_Entry dx (entF e pb pe pp)) ∧ H pb = some (.tup (standV e.ahead)) ∧ H pe = some (.tup (standV e.behind_)) ∧ H pp = some (.lst (e.pays.map V.int))
theorem IsEntry.mono {n : Nm} {e : Kp381.Entry} {v : V} {H H' : Hp} (x : Ex H H') (h : IsEntry n e v H) : IsEntry n e v H' := by
  obtain ⟨p, dx, pb, pe, pp, rfl, h1, h2, h3, h4⟩ := h
  exact ⟨p, dx, pb, pe, pp, rfl, x _ _ h1, x _ _ h2, x _ _ h3, x _ _ h4⟩
theorem entF_number {e : Kp381.Entry} {pb pe pp : Addr} : (entF e pb pe pp).lookup ("number" : Str) = some (.int (e.a : Int)) := lk_here
theorem entF_steps {e : Kp381.Entry} {pb pe pp : Addr} : (entF e pb pe pp).lookup ("steps" : Str) = some (.int (e.k : Int)) := (lk_past (by decide +kernel)).trans lk_here
theorem entF_before {e : Kp381.Entry} {pb pe pp : Addr} : (entF e pb pe pp).lookup ("before" : Str) = some (.ref pb) := (lk_past (by decide +kernel)).trans ((lk_past (by decide +kernel)).trans lk_here)
theorem entF_behind {e : Kp381.Entry} {pb pe pp : Addr} : (entF e pb pe pp).lookup ("behind" : Str) = some (.ref pe) := (lk_past (by decide +kernel)).trans ((lk_past (by decide +kernel)).trans ((lk_past (by decide +kernel)).trans lk_here))
theorem entF_pays {e : Kp381.Entry} {pb pe pp : Addr} : (entF e pb pe pp).lookup ("pays" : Str) = some (.ref pp) := (lk_past (by decide +kernel)).trans ((lk_past (by decide +kernel)).trans ((lk_past (by decide +kernel)).trans ((lk_past (by decide +kernel)).trans lk_here)))
/-! ### promises -/
def promV (q : Kp381.Promise) : List V := [.int (q.kind : Int), .int (q.u : Int), .int (q.s : Int), .int (q.p : Int), .int (q.k : Int), .int q.x]
def IsProm (q : Kp381.Promise) (v : V) (H : Hp) : Prop := ∃ p, v = .ref p ∧ H p = some (.tup (promV q))
theorem IsProm.mono {q : Kp381.Promise} {v : V} {H H' : Hp} (e : Ex H H') (h : IsProm q v H) : IsProm q v H' := by
  obtain ⟨p, rfl, h1⟩ := h
  exact ⟨p, rfl, e _ _ h1⟩
/-- a promise as it may be told -/
structure WfP (w : Kp379.World) (q : Kp381.Promise) : Prop where
  kd : q.kind ≤ 2
  ps : q.s < w.v
  pp : q.p < w.n
  pu : q.u < w.v
  k1 : 1 ≤ q.k
  k4 : q.k ≤ 4
  lo : -99 ≤ q.x
  hi : q.x ≤ 99
/-! ### the house -/
def houseF (np nv : Nat) (ao so lo po : Addr) : List (Str × V) := [("places", .int (np : Int)), ("selves", .int (nv : Int)), ("acts", .ref ao), ("stand", .ref so), ("log", .ref lo), ("promises", .ref po)]
section
variable {np nv : Nat} {ao so lo po : Addr}
theorem houseF_places : (houseF np nv ao so lo po).lookup ("places" : Str) = some (.int (np : Int)) := lk_here
theorem houseF_selves : (houseF np nv ao so lo po).lookup ("selves" : Str) = some (.int (nv : Int)) := (lk_past (by decide +kernel)).trans lk_here
theorem houseF_acts : (houseF np nv ao so lo po).lookup ("acts" : Str) = some (.ref ao) := (lk_past (by decide +kernel)).trans ((lk_past (by decide +kernel)).trans lk_here)
theorem houseF_stand : (houseF np nv ao so lo po).lookup ("stand" : Str) = some (.ref so) := (lk_past (by decide +kernel)).trans ((lk_past (by decide +kernel)).trans ((lk_past (by decide +kernel)).trans lk_here))
theorem houseF_log : (houseF np nv ao so lo po).lookup ("log" : Str) = some (.ref lo) := (lk_past (by decide +kernel)).trans ((lk_past (by decide +kernel)).trans ((lk_past (by decide +kernel)).trans ((lk_past (by decide +kernel)).trans lk_here)))
theorem houseF_promises : (houseF np nv ao so lo po).lookup ("promises" : Str) = some (.ref po) := (lk_past (by decide +kernel)).trans ((lk_past (by decide +kernel)).trans ((lk_past (by decide +kernel)).trans ((lk_past (by decide +kernel)).trans ((lk_past (by decide +kernel)).trans lk_here))))
theorem put_places {m : Nat} : putF "places" (.int (m : Int)) (houseF np nv ao so lo po) = houseF m nv ao so lo po := put_here
theorem put_selves {m : Nat} : putF "selves" (.int (m : Int)) (houseF np nv ao so lo po) = houseF np m ao so lo po := (put_past (by decide +kernel)).trans (congrArg _ put_here)
theorem put_acts {m : Addr} : putF "acts" (.ref m) (houseF np nv ao so lo po) = houseF np nv m so lo po := (put_past (by decide +kernel)).trans (congrArg _ ((put_past (by decide +kernel)).trans (congrArg _ put_here)))
theorem put_stand {m : Addr} : putF "stand" (.ref m) (houseF np nv ao so lo po) = houseF np nv ao m lo po := (put_past (by decide +kernel)).trans (congrArg _ ((put_past (by decide +kernel)).trans (congrArg _ ((put_past (by decide +kernel)).trans (congrArg _ put_here)))))
theorem put_log {m : Addr} : putF "log" (.ref m) (houseF np nv ao so lo po) = houseF np nv ao so m po := (put_past (by decide +kernel)).trans (congrArg _ ((put_past (by decide +kernel)).trans (congrArg _ ((put_past (by decide +kernel)).trans (congrArg _ ((put_past (by decide +kernel)).trans (congrArg _ put_here)))))))
theorem put_promises {m : Addr} : putF "promises" (.ref m) (houseF np nv ao so lo po) = houseF np nv ao so lo m := (put_past (by decide +kernel)).trans (congrArg _ ((put_past (by decide +kernel)).trans (congrArg _ ((put_past (by decide +kernel)).trans (congrArg _ ((put_past (by decide +kernel)).trans (congrArg _ ((put_past (by decide +kernel)).trans (congrArg _ put_here)))))))))
theorem houseF_small : (houseF np nv ao so lo po).length < 1000 := by show 6 < 1000; decide
end
/-- a new list of numbers is given back, nothing that stood is changed -/
def RetI (out : List Int) (H : Hp) (Q : VK) : Prop := ∀ p H2, H p = none → Ex H H2 → H2 p = some (.lst (out.map V.int)) → Q (.ref p) H2
theorem RetI.mono {out : List Int} {H H' : Hp} {Q : VK} (k : RetI out H Q) (e : Ex H H') : RetI out H' Q := fun p H2 hp e2 h => k p H2 (fresh_back e hp) (e.trans e2) h
theorem RetI.new {out : List Int} {H : Hp} {Q : VK} (k : RetI out H Q) {p : Addr} (hp : H p = none) : Q (.ref p) (upd H p (.lst (out.map V.int))) := k p _ hp (Evl.Ex.new hp) upd_same
/-- a house that is begun; X: what others may change meanwhile -/
structure At (n : Nm) (X : List Addr) (h : Kp381.House) (ph dx ao so lo po : Addr) (vas vlog vps : List V) (H : Hp) : Prop where
  hp : H ph = some (.ins n.C_House dx (houseF h.world.n h.world.v ao so lo po))
  ha : H ao = some (.lst vas)
  hl : H lo = some (.lst vlog)
  hq : H po = some (.lst vps)
  ne : ao ≠ lo
  n1 : ao ≠ po
  n2 : lo ≠ po
  ea : Each (IsLst (IsAct n.C_Act)) h.world.acts vas (er ([ph, ao, lo, po] ++ X) H)
  es : IsStand h.now (.ref so) (er ([ph, ao, lo, po] ++ X) H)
  el : Each (IsEntry n) h.log vlog (er ([ph, ao, lo, po] ++ X) H)
  eq : Each IsProm h.promises vps (er ([ph, ao, lo, po] ++ X) H)
  ww : WfW h.world
  os : OkS h.world h.now
  ll : h.log.length ≤ 16
  wp : ∀ q ∈ h.promises, WfP h.world q
  lp : h.promises.length ≤ 4
  le : ∀ e ∈ h.log, e.pays.length = h.world.v
/-- the others' addresses hold lists, and are none of the house's -/
def Off (X S : List Addr) (H : Hp) : Prop := ∀ b ∈ X, (∃ xs, H b = some (.lst xs)) ∧ b ∉ S
theorem Off.mono {X S : List Addr} {H H' : Hp} (e : Ex H H') (o : Off X S H) : Off X S H' := fun b hb => by
  obtain ⟨⟨xs, h1⟩, h2⟩ := o b hb
  exact ⟨⟨xs, e _ _ h1⟩, h2⟩
/-- what is new is none of the others' -/
theorem Off.new {X S : List Addr} {H : Hp} (o : Off X S H) {q : Addr} (h : H q = none) : q ∉ X := fun m => by
  obtain ⟨⟨xs, h1⟩, _⟩ := o q m
  rw [h] at h1
  cases h1
/-- what is no list is none of the others' -/
theorem Off.kind {X S : List Addr} {H : Hp} (o : Off X S H) {q : Addr} {u : HO} (h : H q = some u) (n : ∀ xs, u ≠ .lst xs) : q ∉ X := fun m => by
  obtain ⟨⟨xs, h1⟩, _⟩ := o q m
  rw [h] at h1
  exact n xs (Option.some.inj h1)
theorem Off.next {X S S' : List Addr} {H H' : Hp} (o : Off X S H) (k1 : ∀ b v, H b = some v → b ∉ S → H' b = some v) (k2 : ∀ b, b ∈ S' → b ∈ S ∨ H b = none) : Off X S' H' := fun b hb => by
  obtain ⟨⟨xs, h1⟩, h2⟩ := o b hb
  refine ⟨⟨xs, k1 b _ h1 h2⟩, fun m => ?_⟩
  rcases k2 b m with z | z
  · exact h2 z
  · rw [h1] at z
    cases z
def StAt (n : Nm) (X : List Addr) (st : Kp381.State) (ph : Addr) (S : List Addr) (H : Hp) : Prop := Off X S H ∧ match st with
  | none => S = [ph] ∧ ∃ dx ao so lo po, H ph = some (.ins n.C_House dx (houseF 0 0 ao so lo po))
  | some h => ∃ dx ao so lo po vas vlog vps, S = [ph, ao, lo, po] ∧ At n X h ph dx ao so lo po vas vlog vps H
section
variable {n : Nm} {X : List Addr} {h : Kp381.House} {ph dx ao so lo po : Addr} {vas vlog vps : List V} {H H' : Hp} {st : Kp381.State} {S : List Addr}
theorem At.mono (e : Ex H H') (a : At n X h ph dx ao so lo po vas vlog vps H) : At n X h ph dx ao so lo po vas vlog vps H' :=
  ⟨e _ _ a.hp, e _ _ a.ha, e _ _ a.hl, e _ _ a.hq, a.ne, a.n1, a.n2, a.ea.mono fun l v hl => hl.mono (fun x v hx => hx.mono (er_mono e)) (er_mono e), a.es.mono (er_mono e), a.el.mono fun x v hx => hx.mono (er_mono e), a.eq.mono fun x v hx => hx.mono (er_mono e), a.ww, a.os, a.ll, a.wp, a.lp, a.le⟩
theorem StAt.mono (e : Ex H H') (a : StAt n X st ph S H) : StAt n X st ph S H' := by
  refine ⟨a.1.mono e, ?_⟩
  cases st with
  | none =>
    obtain ⟨_, h0, dx, ao, so, lo, po, h1⟩ := a
    exact ⟨h0, dx, ao, so, lo, po, e _ _ h1⟩
  | some h =>
    obtain ⟨_, dx, ao, so, lo, po, vas, vlog, vps, h0, h1⟩ := a
    exact ⟨dx, ao, so, lo, po, vas, vlog, vps, h0, h1.mono e⟩
theorem StAt.memS (a : StAt n X st ph S H) : ph ∈ S := by
  cases st with
  | none =>
    obtain ⟨_, rfl, _⟩ := a
    exact List.mem_cons_self
  | some h =>
    obtain ⟨_, dx, ao, so, lo, po, vas, vlog, vps, rfl, _⟩ := a
    exact List.mem_cons_self
theorem At.read (a : At n X h ph dx ao so lo po vas vlog vps H) : HRead n h.world (.ref ph) H :=
  ⟨ph, dx, _, .ref ao, rfl, a.hp, houseF_places, houseF_selves, houseF_acts, ao, vas, rfl, a.ha, a.ea.mono fun l v hl => hl.mono (fun x v hx => hx.mono (er_ex _ _)) (er_ex _ _)⟩
theorem At.stand (a : At n X h ph dx ao so lo po vas vlog vps H) : IsStand h.now (.ref so) H := a.es.mono (er_ex _ _)
/-- what a call's def gives back: the state behind it, and a new list of numbers -/
def Told (n : Nm) (X : List Addr) (st' : Kp381.State) (out : List Int) (ph : Addr) (S : List Addr) (H : Hp) (Q : VK) : Prop := ∀ p H' S', StAt n X st' ph S' H' → Kept S S' H H' → H p = none → H' p = some (.lst (out.map V.int)) → Q (.ref p) H'
theorem Told.pure {out : List Int} {Q : VK} (a : StAt n X st ph S H) (k : Told n X st out ph S H Q) : RetI out H Q :=
  fun p H2 hp e h => k p H2 S (a.mono e) (Kept.of_ex e) hp h
end
end CI
/-! What changes in the house: the acts of a place, how the helper stands, the log, the promises. -/
namespace CI
open PySem PySem.Spec PyProof.Rows L2
open Evl (Ex fresh_back)
open Kp379 (Stand)
section
variable {n : Nm} {X : List Addr} {h : Kp381.House} {ph dx ao so lo po : Addr} {vas vlog vps : List V} {H : Hp}
/-- a store at one of the house's own addresses is not seen elsewhere -/
theorem er_upd {S : List Addr} {a : Addr} {o : HO} (m : a ∈ S) : er S (upd H a o) = er S H := by
  funext b
  unfold er
  by_cases c : b ∈ S
  · rw [if_pos c, if_pos c]
  · rw [if_neg c, if_neg c, upd_ne (fun z => c (by rw [z]; exact m))]
theorem At.ne_ap (a : At n X h ph dx ao so lo po vas vlog vps H) : ao ≠ ph := fun z => by
  have := a.ha
  rw [z, a.hp] at this
  cases this
theorem At.ne_lp (a : At n X h ph dx ao so lo po vas vlog vps H) : lo ≠ ph := fun z => by
  have := a.hl
  rw [z, a.hp] at this
  cases this
theorem At.ne_qp (a : At n X h ph dx ao so lo po vas vlog vps H) : po ≠ ph := fun z => by
  have := a.hq
  rw [z, a.hp] at this
  cases this
/-- the house's own addresses hold something -/
theorem At.has (a : At n X h ph dx ao so lo po vas vlog vps H) {q : Addr} (hq : H q = none) : q ∉ [ph, ao, lo, po] := fun m => by
  simp only [List.mem_cons, List.not_mem_nil, or_false] at m
  rcases m with z | z | z | z
  · rw [z, a.hp] at hq; cases hq
  · rw [z, a.ha] at hq; cases hq
  · rw [z, a.hl] at hq; cases hq
  · rw [z, a.hq] at hq; cases hq
/-- no tuple is the house's own -/
theorem At.has_tup (a : At n X h ph dx ao so lo po vas vlog vps H) {q : Addr} {xs : List V} (hq : H q = some (.tup xs)) : q ∉ [ph, ao, lo, po] := fun m => by
  simp only [List.mem_cons, List.not_mem_nil, or_false] at m
  rcases m with z | z | z | z
  · rw [z, a.hp] at hq; cases hq
  · rw [z, a.ha] at hq; cases hq
  · rw [z, a.hl] at hq; cases hq
  · rw [z, a.hq] at hq; cases hq
/-- what is new is none of the house's, none of the others' -/
theorem At.new (a : At n X h ph dx ao so lo po vas vlog vps H) (off : Off X [ph, ao, lo, po] H) {q : Addr} (hq : H q = none) : q ∉ [ph, ao, lo, po] ++ X := fun m => by
  rcases List.mem_append.mp m with z | z
  · exact a.has hq z
  · exact off.new hq z
/-- a tuple is none of the house's, none of the others' -/
theorem At.tup (a : At n X h ph dx ao so lo po vas vlog vps H) (off : Off X [ph, ao, lo, po] H) {q : Addr} {xs : List V} (hq : H q = some (.tup xs)) : q ∉ [ph, ao, lo, po] ++ X := fun m => by
  rcases List.mem_append.mp m with z | z
  · exact a.has_tup hq z
  · exact off.kind hq (fun xs c => by cases c) z
theorem wfp_same {w w' : Kp379.World} {q : Kp381.Promise} (hn : w'.n = w.n) (hv : w'.v = w.v) (h : WfP w q) : WfP w' q :=
  ⟨h.kd, by rw [hv]; exact h.ps, by rw [hn]; exact h.pp, by rw [hv]; exact h.pu, h.k1, h.k4, h.lo, h.hi⟩
/-- the acts at a place are others now -/
theorem At.setActs (a : At n X h ph dx ao so lo po vas vlog vps H) {p : Nat} {as : List Kp379.Act} {v : V} (hv : IsLst (IsAct n.C_Act) as v (er ([ph, ao, lo, po] ++ X) H)) (wf : WfW (Kp379.setActs h.world p as)) :
    At n X { h with world := Kp379.setActs h.world p as } ph dx ao so lo po (vas.set p v) vlog vps (upd H ao (.lst (vas.set p v))) := by
  have same : er ([ph, ao, lo, po] ++ X) (upd H ao (.lst (vas.set p v))) = er ([ph, ao, lo, po] ++ X) H := er_upd (by simp)
  refine ⟨by rw [upd_ne (fun z => a.ne_ap z.symm)]; exact a.hp, upd_same, by rw [upd_ne (fun z => a.ne z.symm)]; exact a.hl, by rw [upd_ne (fun z => a.n1 z.symm)]; exact a.hq, a.ne, a.n1, a.n2, ?_, by rw [same]; exact a.es, by rw [same]; exact a.el, by rw [same]; exact a.eq, wf, a.os, a.ll, fun q hq => wfp_same (w := h.world) rfl rfl (a.wp q hq), a.lp, a.le⟩
  rw [same]
  show Each (IsLst (IsAct n.C_Act)) (h.world.acts.set p as) (vas.set p v) _
  refine ⟨by rw [List.length_set, List.length_set]; exact a.ea.1, fun i b hb => ?_⟩
  by_cases c : p = i
  · subst c
    have hl : p < h.world.acts.length := by
      have := (List.getElem?_eq_some_iff.mp hb).1
      rw [List.length_set] at this
      exact this
    rw [List.getElem?_set_self hl] at hb
    have e : as = b := Option.some.inj hb
    subst e
    exact ⟨v, List.getElem?_set_self (by rw [a.ea.1]; exact hl), hv⟩
  · rw [List.getElem?_set_ne c] at hb
    obtain ⟨u, h1, h2⟩ := a.ea.2 i b hb
    exact ⟨u, by rw [List.getElem?_set_ne c]; exact h1, h2⟩
/-- it stands otherwise now -/
theorem At.setStand (a : At n X h ph dx ao so lo po vas vlog vps H) {t : Addr} {x : Stand} (ht : IsStand x (.ref t) (er ([ph, ao, lo, po] ++ X) H)) (ox : OkS h.world x) :
    At n X { h with now := x } ph dx ao t lo po vas vlog vps (upd H ph (.ins n.C_House dx (houseF h.world.n h.world.v ao t lo po))) := by
  have same : er ([ph, ao, lo, po] ++ X) (upd H ph (.ins n.C_House dx (houseF h.world.n h.world.v ao t lo po))) = er ([ph, ao, lo, po] ++ X) H := er_upd (by simp)
  exact ⟨upd_same, by rw [upd_ne a.ne_ap]; exact a.ha, by rw [upd_ne a.ne_lp]; exact a.hl, by rw [upd_ne a.ne_qp]; exact a.hq, a.ne, a.n1, a.n2, by rw [same]; exact a.ea, by rw [same]; exact ht, by rw [same]; exact a.el, by rw [same]; exact a.eq, a.ww, ox, a.ll, a.wp, a.lp, a.le⟩
/-- one entry more -/
theorem At.log1 (a : At n X h ph dx ao so lo po vas vlog vps H) {e : Kp381.Entry} {v : V} (hv : IsEntry n e v (er ([ph, ao, lo, po] ++ X) H)) (hl : h.log.length < 16) (he : e.pays.length = h.world.v) :
    At n X { h with log := h.log ++ [e] } ph dx ao so lo po vas (vlog ++ [v]) vps (upd H lo (.lst (vlog ++ [v]))) := by
  have same : er ([ph, ao, lo, po] ++ X) (upd H lo (.lst (vlog ++ [v]))) = er ([ph, ao, lo, po] ++ X) H := er_upd (by simp)
  refine ⟨by rw [upd_ne (fun z => a.ne_lp z.symm)]; exact a.hp, by rw [upd_ne a.ne]; exact a.ha, upd_same, by rw [upd_ne (fun z => a.n2 z.symm)]; exact a.hq, a.ne, a.n1, a.n2, by rw [same]; exact a.ea, by rw [same]; exact a.es, by rw [same]; exact Each.snoc a.el hv, by rw [same]; exact a.eq, a.ww, a.os, ?_, a.wp, a.lp, fun b hb => ?_⟩
  · show (h.log ++ [e]).length ≤ 16
    rw [List.length_append]
    exact hl
  · rcases List.mem_append.mp hb with z | z
    · exact a.le b z
    · have : b = e := by simpa using z
      rw [this]
      exact he
/-- the promises are others now -/
theorem At.setProm (a : At n X h ph dx ao so lo po vas vlog vps H) {ps : List Kp381.Promise} {vs : List V} (hv : Each IsProm ps vs (er ([ph, ao, lo, po] ++ X) H)) (hl : ps.length ≤ 4) (hw : ∀ q ∈ ps, WfP h.world q) :
    At n X { h with promises := ps } ph dx ao so lo po vas vlog vs (upd H po (.lst vs)) := by
  have same : er ([ph, ao, lo, po] ++ X) (upd H po (.lst vs)) = er ([ph, ao, lo, po] ++ X) H := er_upd (by simp)
  exact ⟨by rw [upd_ne (fun z => a.ne_qp z.symm)]; exact a.hp, by rw [upd_ne a.n1]; exact a.ha, by rw [upd_ne a.n2]; exact a.hl, upd_same, a.ne, a.n1, a.n2, by rw [same]; exact a.ea, by rw [same]; exact a.es, by rw [same]; exact a.el, by rw [same]; exact hv, a.ww, a.os, a.ll, hw, hl, a.le⟩
/-- a call's def ends: the house is so by now, and a new list is answered -/
theorem Told.fin {h' : Kp381.House} {so' : Addr} {vas' vlog' vps' : List V} {G G' : Hp} {r : Addr} {out : List Int} {Q : VK} (off : Off X [ph, ao, lo, po] H) (kp : ∀ b o, H b = some o → b ∉ [ph, ao, lo, po] → G b = some o) (a' : At n X h' ph dx ao so' lo po vas' vlog' vps' G)
    (x : Ex G G') (hr : G r = none) (hg : G' r = some (.lst (out.map V.int))) (k : Told n X (some h') out ph [ph, ao, lo, po] H Q) : Q (.ref r) G' := by
  refine k r G' [ph, ao, lo, po] ⟨(off.next kp (fun b m => Or.inl m)).mono x, dx, ao, so', lo, po, vas', vlog', vps', rfl, a'.mono x⟩ ⟨fun b o hb nb => x _ _ (kp b o hb nb), fun b m => Or.inl m⟩ ?_ hg
  cases c9 : H r with
  | none => rfl
  | some o =>
    exfalso
    rw [kp r o c9 (a'.has hr)] at hr
    cases hr
end
/-! ### worlds changed stay as they should be -/
theorem wfAct_same {w w' : Kp379.World} {a : Kp379.Act} (hn : w'.n = w.n) (hv : w'.v = w.v) (h : WfAct w a) : WfAct w' a :=
  ⟨by rw [hv]; exact h.pl, h.pb, by rw [hn]; exact h.wl, h.wb, h.wt, by rw [hv]; exact h.tn⟩
theorem wf_setActs {w : Kp379.World} {p : Nat} {as : List Kp379.Act} (h : WfW w) (h3 : as.length ≤ 3) (ha : ∀ a ∈ as, WfAct w a) : WfW (Kp379.setActs w p as) := by
  refine ⟨h.n2, h.n4, h.v1, h.v3, ?_, fun l hl => ?_, fun l hl a hal => ?_⟩
  · show (w.acts.set p as).length = w.n
    rw [List.length_set]
    exact h.al
  · rcases List.mem_or_eq_of_mem_set (show l ∈ w.acts.set p as from hl) with z | z
    · exact h.a3 l z
    · rw [z]; exact h3
  · rcases List.mem_or_eq_of_mem_set (show l ∈ w.acts.set p as from hl) with z | z
    · exact wfAct_same (w := w) rfl rfl (h.aw l z a hal)
    · rw [z] at hal
      exact wfAct_same (w := w) rfl rfl (ha a hal)
theorem total_pos_any : ∀ l : List Nat, l.any (fun v => decide (0 < v)) = true → 0 < Kp346.total l
  | [], h => by cases h
  | x :: r, h => by
    rw [total_cons]
    rw [List.any_cons, Bool.or_eq_true] at h
    rcases h with z | z
    · have := of_decide_eq_true z
      omega
    · have := total_pos_any r z
      omega
/-- an act as it was told -/
theorem wf_readAct {w : Kp379.World} {l : List Int} {a : Kp379.Act} (h : Kp379.readAct w l = some a) : WfAct w a ∧ a = ⟨l.take w.v, (l.drop w.v).map Int.toNat, 0, false⟩ ∧ natV a.to = (l.drop w.v).map V.int := by
  unfold Kp379.readAct at h
  simp only at h
  split at h
  · rename_i hc
    obtain ⟨h1, h2, h3, h4⟩ := hc
    have e : (⟨l.take w.v, (l.drop w.v).map Int.toNat, 0, false⟩ : Kp379.Act) = a := Option.some.inj h
    subst e
    simp only [List.all_eq_true, Bool.and_eq_true, decide_eq_true_eq] at h2 h3
    refine ⟨⟨?_, fun z hz => h2 z hz, ?_, fun z hz => ?_, ?_, Nat.zero_le _⟩, rfl, ?_⟩
    · show (l.take w.v).length = w.v
      rw [List.length_take]
      omega
    · show ((l.drop w.v).map Int.toNat).length = w.n
      rw [List.length_map, List.length_drop]
      omega
    · obtain ⟨y, hy, rfl⟩ := List.mem_map.mp hz
      have := h3 y hy
      omega
    · refine total_pos_any _ ?_
      rw [List.any_eq_true] at h4 ⊢
      obtain ⟨y, hy, hy2⟩ := h4
      refine ⟨y.toNat, List.mem_map_of_mem hy, decide_eq_true ?_⟩
      have := of_decide_eq_true hy2
      omega
    · show ((l.drop w.v).map Int.toNat).map (fun (m : Nat) => V.int (m : Int)) = _
      rw [List.map_map]
      refine List.map_congr_left fun y hy => ?_
      show V.int ((y.toNat : Nat) : Int) = V.int y
      rw [Int.toNat_of_nonneg (h3 y hy).1]
  · cases h
end CI
namespace CI
open PySem PySem.Spec PyProof.Rows L2
open Evl (Ex fresh_back Ev EvT EvA EvL)
open Kp340 (Fr fr)
open Kp379 (Stand)
section
variable {K : PySem.W.Frag} {σ : L2.St} {H : Hp} {D : Ends}
/-! ### short words: an answer of one number; tests -/
theorem ret_one {z : Int} (k : RetI [z] H D.rt) : tRet (tLst (tCons (tC (.int z)) tNil)) D σ H :=
  ⟨by show 1 ≤ sizeLine; decide, fun p hp => k.new hp⟩
theorem et_gt {te : TE} {x m : Nat} (h : Ev te σ H (.int (x : Int))) : EvT (tTest (tOp (rI0 fun i j => .bl (decide (j < i))) te (tC (.int (m : Int))))) σ H (decide (m < x)) := by
  have h1 : EvT (tTest (tOp (rI0 fun i j => .bl (decide (j < i))) te (tC (.int (m : Int))))) σ H (decide ((m : Int) < (x : Int))) := Evl.et_test (Evl.ev_op h Evl.ev_c Evl.rv_I0)
  exact Evl.et_is h1 (decide_eq_decide.mpr (by omega))
theorem et_between {te : TE} {x lo hi : Nat} (h : Ev te σ H (.int (x : Int))) : EvT (tTest (tChain (rI0 fun i j => .bl (decide (i ≤ j))) (rI0 fun i j => .bl (decide (i ≤ j))) (tC (.int (lo : Int))) te (tC (.int (hi : Int))))) σ H (decide (lo ≤ x) && decide (x ≤ hi)) := fun H1 e Q q =>
  h H1 e _ fun H2 e2 => ⟨_, _, rfl, rfl, _, rfl, by
    refine if_c (fun c => ?_) (fun c => ?_)
    · refine ⟨_, _, rfl, rfl, _, rfl, ?_⟩
      have c' : lo ≤ x := by have := of_decide_eq_true c; omega
      have e1 : (decide (lo ≤ x) && decide (x ≤ hi)) = decide ((x : Int) ≤ (hi : Int)) := by
        rw [decide_eq_true c', Bool.true_and]
        exact decide_eq_decide.mpr (by omega)
      rw [← e1]
      exact q H2 e2
    · refine ⟨_, rfl, ?_⟩
      have c' : ¬ lo ≤ x := by have := of_decide_eq_false c; omega
      have e1 : (decide (lo ≤ x) && decide (x ≤ hi)) = false := by rw [decide_eq_false c', Bool.false_and]
      rw [← e1]
      exact q H2 e2⟩
variable {n : Nm} {wd : Kp379.World} {v : V} {i j p : Nat}
theorem ev_has_place (hH : HRead n wd v H) (h1 : σ[i]? = some (some v)) (h2 : σ[j]? = some (some (.int (p : Int)))) : Ev (tCall (sp_has_place n) [] E0 (tCons (tVar i) (tCons (tVar j) tNil))) σ H (.bl (Kp379.isPlace wd p)) :=
  Evl.ev_call (Evl.ea_cons (Evl.ev_var h1) (Evl.ea_cons (Evl.ev_var h2) Evl.ea_nil)) fun H1 e Q q _ => ⟨v, wd, p, rfl, hH.mono e, fun u H2 e2 hu => by rw [hu]; exact q H2 e2⟩
theorem ev_has_self (hH : HRead n wd v H) (h1 : σ[i]? = some (some v)) (h2 : σ[j]? = some (some (.int (p : Int)))) : Ev (tCall (sp_has_self n) [] E0 (tCons (tVar i) (tCons (tVar j) tNil))) σ H (.bl (Kp379.isSelf wd p)) :=
  Evl.ev_call (Evl.ea_cons (Evl.ev_var h1) (Evl.ea_cons (Evl.ev_var h2) Evl.ea_nil)) fun H1 e Q q _ => ⟨v, wd, p, rfl, hH.mono e, fun u H2 e2 hu => by rw [hu]; exact q H2 e2⟩
theorem ev_may_go {k : Nat} (h1 : σ[i]? = some (some (.int (k : Int)))) : Ev (tCall (sp_may_go n) [] E0 (tCons (tVar i) tNil)) σ H (.bl (decide (1 ≤ k) && decide (k ≤ 4))) :=
  Evl.ev_call (Evl.ea_cons (Evl.ev_var h1) Evl.ea_nil) fun H1 e Q q _ => ⟨k, rfl, fun u H2 e2 hu => by rw [hu]; exact q H2 e2⟩
/-- not a place, or not a self -/
theorem et_ps {j2 s : Nat} (hH : HRead n wd v H) (h1 : σ[i]? = some (some v)) (h2 : σ[j]? = some (some (.int (p : Int)))) (h3 : σ[j2]? = some (some (.int (s : Int)))) :
    EvT (tOr (tNot (tB (tCall (sp_has_place n) [] E0 (tCons (tVar i) (tCons (tVar j) tNil))))) (tNot (tB (tCall (sp_has_self n) [] E0 (tCons (tVar i) (tCons (tVar j2) tNil)))))) σ H (!Kp379.isPlace wd p || !Kp379.isSelf wd s) :=
  Evl.et_or (Evl.et_not (Evl.et_B (ev_has_place hH h1 h2))) fun _ => Evl.et_not (Evl.et_B (ev_has_self hH h1 h3))
theorem b2_eq {l : Nat} (h : l ≤ 1) : b2 (l == 1) = (l : Int) := by
  match l, h with
  | 0, _ => rfl
  | 1, _ => rfl
end
/-! ### what is answered, as lists of numbers -/
def out2 (wd : Kp379.World) (p s : Nat) (bad : Bool) (o : List Int) : List Int := if (!Kp379.isPlace wd p || !Kp379.isSelf wd s) = true then [-2] else if bad = true then [-22] else o
def doesOut (wd : Kp379.World) (p s l k : Nat) : List Int := out2 wd p s (decide (1 < l) || !(decide (1 ≤ k) && decide (k ≤ 4))) (match Kp379.does wd ⟨p, s, l == 1⟩ k with
  | none => [-33]
  | some a => [(a : Int)])
def frsOut (l : List Fr) : List Int := l.flatMap fun x => [x.1, x.2]
def lightsOut (wd : Kp379.World) (p s l k : Nat) : List Int := out2 wd p s (decide (1 < l) || decide (4 < k)) ((wd.v : Int) :: frsOut ((List.range wd.v).map fun u => Kp379.worth wd u ⟨p, s, l == 1⟩ k))
section
variable {P : Program} {w : World} {K : PySem.W.Frag} {mg : Str → Option Value} {base : Heap} {n : Nm}
/-! ### tell_stand -/
def standOut (x : Stand) : List Int := [0, (x.p : Int), (x.s : Int), b2 x.locked]
def sp_tell_stand (n : Nm) : Sp := fun vs H Q _ => ∃ (ph dx so : Addr) (fs : List (Str × V)) (x : Stand), vs = [.ref ph] ∧ H ph = some (.ins n.C_House dx fs) ∧ fs.lookup ("stand" : Str) = some (.ref so) ∧ H so = some (.tup (standV x)) ∧ RetI (standOut x) H Q
theorem ok_tell_stand (D : Ds n K mg) : FnOk P w K mg base CX0 1 n.f_tell_stand n.fd_tell_stand P_tell_stand (sp_tell_stand n) := by
  refine D.d_tell_stand.F.ok sc_tell_stand (fun vs H Q E h => ?_) (fun cdv A outer s H vs Q E hr h => ?_)
  · obtain ⟨ph, dx, so, fs, x, rfl, _⟩ := h
    rfl
  · obtain ⟨ph, dx, so, fs, x, rfl, hp, f1, hs, k⟩ := h
    refine ⟨_, (pss_one (ps_ret (pe_op op_cat (pe_lst (pa_cons pe_int pa_nil)) (pe_callTy call_list_of (by rfl) D.n_list (by decide +kernel) (pa_cons (pe_fld (pv 0) rfl) pa_nil))))), ?_⟩
    refine ⟨by show 1 ≤ sizeLine; decide, fun p1 h1 => ?_⟩
    have e1 : Ex H (upd H p1 (.lst [.int 0])) := Evl.Ex.new h1
    refine ⟨_, rfl, ph, n.C_House, dx, _, _, rfl, e1 _ _ hp, D.c_House.cl, D.House_stand, f1, so, _, rfl, Or.inr (sqT (e1 _ _ hs)), fun p2 h2 => ?_⟩
    have e2 : Ex (upd H p1 (.lst [.int 0])) (upd (upd H p1 (.lst [.int 0])) p2 (.lst (standV x))) := Evl.Ex.new h2
    refine ⟨p1, p2, _, _, rfl, rfl, e2 _ _ upd_same, upd_same, by show 4 ≤ sizeLine; decide, fun p3 h3 => ?_⟩
    exact (k.mono (e1.trans e2)).new h3
/-! ### tell_act -/
def sp_tell_act (n : Nm) : Sp := fun vs H Q _ => ∃ (v : V) (wd : Kp379.World) (p s l k : Nat), vs = [v, .int (p : Int), .int (s : Int), .int (l : Int), .int (k : Int)] ∧ HRead n wd v H ∧ WfW wd ∧ RetI (doesOut wd p s l k) H Q
theorem does_none {wd : Kp379.World} {x : Stand} (ox : OkS wd x) {k : Nat} (h1 : 1 ≤ k) (h : Kp379.actsAt wd x.p = []) : Kp379.does wd x k = none := by
  have ek : k = k - 1 + 1 := by omega
  rw [ek, does_is ox, step1_none h]
theorem ok_tell_act (D : Ds n K mg) : FnOk P w K mg base CX0 11 n.f_tell_act n.fd_tell_act P_tell_act (sp_tell_act n) := by
  have G_has_self := ok_has_self (P := P) (w := w) (base := base) D
  have G_has_place := ok_has_place (P := P) (w := w) (base := base) D
  have G_may_go := ok_may_go (P := P) (w := w) (base := base) D
  have G_best_act := ok_best_act (P := P) (w := w) (base := base) D
  have G_worth_table := ok_worth_table (P := P) (w := w) (base := base) D
  refine D.d_tell_act.F.ok sc_tell_act (fun vs H Q E h => ?_) (fun cdv A outer s H vs Q E hr h => ?_)
  · obtain ⟨v, wd, p, s, l, k, rfl, _⟩ := h
    rfl
  · obtain ⟨v, wd, p, s, l, k, rfl, hH, ww, kQ⟩ := h
    refine ⟨_, (pss_cons (ps_if (PW.pt (pw_or (pt_not (pt_val (pe_call G_has_place (hr.mono (by decide)) rfl D.d_has_place.g D.d_has_place.F.kp D.d_has_place.b .nil pass0 (pa_cons (pv 0) (pa_cons (pv 1) pa_nil))))) (pw_or1 (pt_not (pt_val (pe_call G_has_self (hr.mono (by decide)) rfl D.d_has_self.g D.d_has_self.F.kp D.d_has_self.b .nil pass0 (pa_cons (pv 0) (pa_cons (pv 2) pa_nil))))))))
        (pss_one (ps_ret (pe_lst (pa_cons (pe_const rfl D.g_NO_SUCH) pa_nil))))
        pss_nil)
      (pss_cons (ps_if (PW.pt (pw_or (pt_cmpR op_gt (pv 3) pe_int (nomark _)) (pw_or1 (pt_not (pt_val (pe_call G_may_go (hr.mono (by decide)) rfl D.d_may_go.g D.d_may_go.F.kp D.d_may_go.b .nil pass0 (pa_cons (pv 4) pa_nil)))))))
        (pss_one (ps_ret (pe_lst (pa_cons (pe_const rfl D.g_NOT_AS_TOLD) pa_nil))))
        pss_nil)
      (pss_cons (ps_set (i := 5) sc_tell_act.nd rfl (Or.inl rfl) (pe_ix ix_list (pe_fld (pv 0) rfl) (pv 1) (fun _ _ => rfl)))
      (pss_cons (ps_if (pt_cmpR op_eq (pe_callB call_len_seq (by rfl) D.n_len PySem.boot_len (pa_cons (pv 5) pa_nil)) pe_int (nomark _))
        (pss_one (ps_ret (pe_lst (pa_cons (pe_const rfl D.g_NO_ACT) pa_nil))))
        pss_nil)
      (pss_one (ps_ret (pe_lst (pa_cons (pe_call G_best_act (hr.mono (by decide)) rfl D.d_best_act.g D.d_best_act.F.kp D.d_best_act.b .nil pass0 (pa_cons (pv 5) (pa_cons (pe_tup (pa_cons (pv 1) (pa_cons (pv 2) (pa_cons (pv 3) pa_nil)))) (pa_cons (pe_call G_worth_table (hr.mono (by decide)) rfl D.d_worth_table.g D.d_worth_table.F.kp D.d_worth_table.b .nil pass0 (pa_cons (pv 0) (pa_cons (pe_op op_sub (pv 4) pe_int) pa_nil))) pa_nil)))) pa_nil)))))))), ?_⟩
    refine Evl.q_when (et_ps hH rfl rfl rfl) (fun c H1 e1 => ?_) (fun c H1 e1 => ?_)
    · refine ret_one ?_
      unfold doesOut out2 at kQ
      rw [if_pos c] at kQ
      exact kQ.mono e1
    · refine Evl.q_when (Evl.et_or (et_gt (m := 1) (x := l) (Evl.ev_var rfl)) fun _ => Evl.et_not (Evl.et_B (ev_may_go (n := n) (k := k) rfl))) (fun c2 H2 e2 => ?_) (fun c2 H2 e2 => ?_)
      · refine ret_one ?_
        unfold doesOut out2 at kQ
        rw [if_neg (by rw [c]; decide), if_pos c2] at kQ
        exact kQ.mono (e1.trans e2)
      · unfold doesOut out2 at kQ
        rw [if_neg (by rw [c]; decide), if_neg (by rw [c2]; decide)] at kQ
        have hp : p < wd.n := by
          simp only [Bool.or_eq_false_iff, Bool.not_eq_false', Kp379.isPlace, decide_eq_true_eq] at c
          exact c.1
        have hs : s < wd.v := by
          simp only [Bool.or_eq_false_iff, Bool.not_eq_false', Kp379.isSelf, decide_eq_true_eq] at c
          exact c.2
        simp only [Bool.or_eq_false_iff, Bool.not_eq_false', Bool.and_eq_true, decide_eq_false_iff_not, decide_eq_true_eq] at c2
        have e12 := e1.trans e2
        have hH2 := hH.mono e12
        have hH' := hH2
        obtain ⟨ph, dx, fs, va, rfl, hph, f1, f2, f3, pa, vas, rfl, hpa, hE⟩ := hH'
        obtain ⟨g1, g2, g3⟩ := ww.at_ hp
        obtain ⟨vl, hvl, pl, vls, rfl, hpl, hEl⟩ := hE.2 _ _ g1
        refine ⟨_, rfl, ph, n.C_House, dx, _, _, rfl, hph, D.c_House.cl, D.House_acts, f3, _, rfl, pa, _, _, _, rfl, rfl, sqL hpa, atI_nat hvl, ?_⟩
        refine ⟨_, rfl, pl, vls, rfl, Or.inl (sqL hpl), rfl, _, rfl, ?_⟩
        have ox : OkS wd ⟨p, s, l == 1⟩ := ⟨hp, hs⟩
        have ek : k = k - 1 + 1 := by omega
        by_cases cz : Kp379.actsAt wd p = []
        · have hz : vls.length = 0 := by rw [hEl.1, cz]; rfl
          refine if_t (by rw [hz]; rfl) ?_
          refine ret_one ?_
          rw [does_none ox c2.2.1 cz] at kQ
          exact kQ.mono e12
        · have hz : vls.length ≠ 0 := by
            rw [hEl.1]
            intro z
            exact cz (List.length_eq_zero_iff.mp z)
          refine if_f (by simp; exact fun z => hz (by rw [z]; rfl)) ?_
          refine ⟨_, rfl, _, rfl, _, rfl, _, rfl, by show 3 ≤ sizeLine; decide, fun t ht => ?_⟩
          have e3 : Ex H2 (upd H2 t (.tup [.int (p : Int), .int (s : Int), .int (l : Int)])) := Evl.Ex.new ht
          have eb := b2_eq (show l ≤ 1 by omega)
          have es : (k : Int) - 1 = ((k - 1 : Nat) : Int) := by omega
          have hX : IsStand ⟨p, s, l == 1⟩ (.ref t) (upd H2 t (.tup [.int (p : Int), .int (s : Int), .int (l : Int)])) := by
            refine ⟨t, rfl, ?_⟩
            rw [upd_same]
            show some (HO.tup [V.int (p : Int), V.int (s : Int), V.int (l : Int)]) = some (HO.tup [V.int (p : Int), V.int (s : Int), V.int (b2 (l == 1))])
            rw [eb]
          refine ⟨_, rfl, _, rfl, _, _, rfl, rfl, _, wd, k - 1, by show [V.ref ph, V.int ((k : Int) - 1)] = _; rw [es], hH2.mono e3, ww, by omega, fun vt H3 e4 hT => ?_⟩
          have e34 := e3.trans e4
          refine ⟨_, _, _, wd, _, ⟨p, s, l == 1⟩, _, bt (k - 1), rfl, IsLst.mono (fun a v ha => ha.mono e34) e34 ⟨pl, vls, rfl, hpl, hEl⟩, hX.mono e4, hT, ww.n4, g3, by omega, cz, ox, rowOk ww _, bt_le (by omega), fun b hb => ?_⟩
          have hd : Kp379.does wd ⟨p, s, l == 1⟩ k = some b.1 := by
            rw [ek, does_is ox]
            unfold step1
            rw [hb]
          rw [hd] at kQ
          intro u H5 e5 hu
          subst hu
          refine ⟨by show 1 ≤ sizeLine; decide, fun p4 h4 => ?_⟩
          exact (kQ.mono ((e12.trans e34).trans e5)).new h4
end
end CI
namespace CI
open PySem PySem.Spec PyProof.Rows L2
open Evl (Ex fresh_back Ev EvT EvA EvL)
open Kp340 (Fr fr)
open Kp379 (Stand)
theorem worth_row {wd : Kp379.World} {x : Stand} {k : Nat} (ww : WfW wd) (ox : OkS wd x) : (List.range wd.v).map (fun u => Kp379.worth wd u x k) = rowAtS wd (Kp379.rowAt wd k) x := by
  have hl := (rowOk ww k x ox).1
  apply List.ext_getElem
  · rw [List.length_map, List.length_range, hl]
  · intro i h1 h2
    rw [List.getElem_map, List.getElem_range]
    show (rowAtS wd (Kp379.rowAt wd k) x).getD i (0, 1) = _
    rw [List.getD_eq_getElem?_getD, List.getElem?_eq_getElem h2]
    rfl
theorem frsOut_snoc (l : List Fr) (x : Fr) : frsOut (l ++ [x]) = frsOut l ++ [x.1, x.2] := by
  unfold frsOut
  rw [List.flatMap_append]
  simp
theorem frsOut_len (l : List Fr) : (frsOut l).length = 2 * l.length := by
  induction l with
  | nil => rfl
  | cons x r ih =>
    show (x.1 :: x.2 :: frsOut r).length = _
    simp only [List.length_cons, ih]
    omega
section
variable {P : Program} {w : World} {K : PySem.W.Frag} {mg : Str → Option Value} {base : Heap} {n : Nm}
theorem tupS {H : Hp} {t : Addr} {p s l : Nat} (hl : l ≤ 1) (h : H t = some (.tup [.int (p : Int), .int (s : Int), .int (l : Int)])) : H t = some (.tup ((sk ⟨p, s, l == 1⟩).map kV)) := by
  rw [h, sk_map]
  show some (HO.tup [V.int (p : Int), V.int (s : Int), V.int (l : Int)]) = some (HO.tup [V.int (p : Int), V.int (s : Int), V.int (b2 (l == 1))])
  rw [b2_eq hl]
/-! ### tell_lights -/
def sp_tell_lights (n : Nm) : Sp := fun vs H Q _ => ∃ (v : V) (wd : Kp379.World) (p s l k : Nat), vs = [v, .int (p : Int), .int (s : Int), .int (l : Int), .int (k : Int)] ∧ HRead n wd v H ∧ WfW wd ∧ RetI (lightsOut wd p s l k) H Q
theorem ok_tell_lights (D : Ds n K mg) : FnOk P w K mg base CX0 11 n.f_tell_lights n.fd_tell_lights P_tell_lights (sp_tell_lights n) := by
  have G_has_place := ok_has_place (P := P) (w := w) (base := base) D
  have G_has_self := ok_has_self (P := P) (w := w) (base := base) D
  have G_worth_table := ok_worth_table (P := P) (w := w) (base := base) D
  refine D.d_tell_lights.F.ok sc_tell_lights (fun vs H Q E h => ?_) (fun cdv A outer s H vs Q E hr h => ?_)
  · obtain ⟨v, wd, p, s, l, k, rfl, _⟩ := h
    rfl
  · obtain ⟨v, wd, p, s, l, k, rfl, hH, ww, kQ⟩ := h
    refine ⟨_, (pss_cons (ps_if (PW.pt (pw_or (pt_not (pt_val (pe_call G_has_place (hr.mono (by decide)) rfl D.d_has_place.g D.d_has_place.F.kp D.d_has_place.b .nil pass0 (pa_cons (pv 0) (pa_cons (pv 1) pa_nil))))) (pw_or1 (pt_not (pt_val (pe_call G_has_self (hr.mono (by decide)) rfl D.d_has_self.g D.d_has_self.F.kp D.d_has_self.b .nil pass0 (pa_cons (pv 0) (pa_cons (pv 2) pa_nil))))))))
        (pss_one (ps_ret (pe_lst (pa_cons (pe_const rfl D.g_NO_SUCH) pa_nil))))
        pss_nil)
      (pss_cons (ps_if (PW.pt (pw_or (pt_cmpR op_gt (pv 3) pe_int (nomark _)) (pw_or1 (pt_cmpR op_gt (pv 4) (pe_const rfl D.g_MOST_STEPS) (nomark _)))))
        (pss_one (ps_ret (pe_lst (pa_cons (pe_const rfl D.g_NOT_AS_TOLD) pa_nil))))
        pss_nil)
      (pss_cons (ps_set (i := 5) sc_tell_lights.nd rfl (Or.inl rfl) (pe_lst (pa_cons (pe_fld (pv 0) rfl) pa_nil)))
      (pss_cons (ps_for PassesOwn.never rfl (pi_list (pe_dget (hu_of hr) (pe_call G_worth_table (hr.mono (by decide)) rfl D.d_worth_table.g D.d_worth_table.F.kp D.d_worth_table.b .nil pass0 (pa_cons (pv 0) (pa_cons (pv 4) pa_nil))) (pe_tup (pa_cons (pv 1) (pa_cons (pv 2) (pa_cons (pv 3) pa_nil)))) (fun _ _ => rfl))) (pg_name (i := 6) sc_tell_lights.nd rfl (Or.inl rfl))
        (pss_one (ps_expr (pe_bm PySem.F.plainAttrs_list PySem.F.slot_list_extend PySem.F.type_list_extend mt_extendT (pv 5) (pa_cons (pv 6) pa_nil)))))
      (pss_one (ps_ret (pv 5))))))), ?_⟩
    refine Evl.q_when (et_ps hH rfl rfl rfl) (fun c H1 e1 => ?_) (fun c H1 e1 => ?_)
    · refine ret_one ?_
      unfold lightsOut out2 at kQ
      rw [if_pos c] at kQ
      exact kQ.mono e1
    · refine Evl.q_when (Evl.et_or (et_gt (m := 1) (x := l) (Evl.ev_var rfl)) fun _ => et_gt (m := 4) (x := k) (Evl.ev_var rfl)) (fun c2 H2 e2 => ?_) (fun c2 H2 e2 => ?_)
      · refine ret_one ?_
        unfold lightsOut out2 at kQ
        rw [if_neg (by rw [c]; decide), if_pos c2] at kQ
        exact kQ.mono (e1.trans e2)
      · unfold lightsOut out2 at kQ
        rw [if_neg (by rw [c]; decide), if_neg (by rw [c2]; decide)] at kQ
        have hp : p < wd.n := by
          simp only [Bool.or_eq_false_iff, Bool.not_eq_false', Kp379.isPlace, decide_eq_true_eq] at c
          exact c.1
        have hs : s < wd.v := by
          simp only [Bool.or_eq_false_iff, Bool.not_eq_false', Kp379.isSelf, decide_eq_true_eq] at c
          exact c.2
        simp only [Bool.or_eq_false_iff, decide_eq_false_iff_not] at c2
        have ox : OkS wd ⟨p, s, l == 1⟩ := ⟨hp, hs⟩
        rw [worth_row ww ox] at kQ
        have e12 := e1.trans e2
        have hH2 := hH.mono e12
        have hH' := hH2
        obtain ⟨ph, dx, fs, va, rfl, hph, f1, f2, f3, f4⟩ := hH'
        have rl := (rowOk ww k ⟨p, s, l == 1⟩ ox).1
        have v3 := ww.v3
        refine ⟨_, rfl, ph, n.C_House, dx, _, _, rfl, hph, D.c_House.cl, D.House_selves, f2, by show 1 ≤ sizeLine; decide, fun la hla => ?_⟩
        have e3 : Ex H2 (upd H2 la (.lst [.int (wd.v : Int)])) := Evl.Ex.new hla
        refine ⟨_, rfl, _, rfl, _, wd, k, rfl, hH2.mono e3, ww, by omega, fun vt H3 e4 hT => ?_⟩
        obtain ⟨pt, kvs, rfl, hpt, hrow⟩ := hT
        refine ⟨_, rfl, _, rfl, _, rfl, by show 3 ≤ sizeLine; decide, fun t ht => ?_⟩
        have e5 : Ex H3 (upd H3 t (.tup [.int (p : Int), .int (s : Int), .int (l : Int)])) := Evl.Ex.new ht
        obtain ⟨u, hu, pl, vls, rfl, hpl, hEl⟩ := hrow _ ox
        refine ⟨pt, _, rfl, by rw [← hu]; exact DGet.t (e5 _ _ hpt) (tupS (by omega) upd_same), pl, rfl, ⟨vls, sqL (e5 _ _ hpl)⟩, ?_⟩
        have hla3 := e5 _ _ (e4 _ _ (upd_same (H := H2) (a := la) (o := .lst [.int (wd.v : Int)])))
        have hlaH : H la = none := fresh_back e12 hla
        have epl : Ex (upd H3 t (.tup [.int (p : Int), .int (s : Int), .int (l : Int)])) (upd H3 t (.tup [.int (p : Int), .int (s : Int), .int (l : Int)])) := Evl.Ex.refl _
        have npl : pl ≠ la := by
          intro z
          subst z
          have h1 := e4 _ _ (upd_same (H := H2) (a := pl) (o := .lst [.int (wd.v : Int)]))
          rw [hpl] at h1
          have h2 : vls = [V.int (wd.v : Int)] := by simpa using h1
          have h3 : (rowAtS wd (Kp379.rowAt wd k) ⟨p, s, l == 1⟩)[0]? = some (rowAtS wd (Kp379.rowAt wd k) ⟨p, s, l == 1⟩)[0] := List.getElem?_eq_getElem (by rw [rl]; exact ww.v1)
          obtain ⟨v0, h4, q0, h5, _⟩ := hEl.2 0 _ h3
          rw [h2] at h4
          have h6 : V.int (wd.v : Int) = v0 := Option.some.inj h4
          rw [← h6] at h5
          cases h5
        refine for_list (K := K) (a := pl) (xs := vls) (fun i σ H' => Ex H H' ∧ H' pl = some (.lst vls) ∧ Each IsFr (rowAtS wd (Kp379.rowAt wd k) ⟨p, s, l == 1⟩) vls H' ∧ H' la = some (.lst (((wd.v : Int) :: frsOut ((rowAtS wd (Kp379.rowAt wd k) ⟨p, s, l == 1⟩).take i)).map V.int)) ∧ ∃ o6 : Option V,
          σ = [some (.ref ph), some (.int (p : Int)), some (.int (s : Int)), some (.int (l : Int)), some (.int (k : Int)), some (.ref la), o6]) ⟨((e12.trans e3).trans e4).trans e5, e5 _ _ hpl, hEl.mono (fun a v ha => ha.mono e5), hla3, none, rfl⟩ (fun i σ H' _ h => sqL h.2.1) ?_ ?_
        · rintro i y σ H' hi ⟨x1, x2, x3, x4, o6, rfl⟩
          obtain ⟨f, hf, q, rfl, hq⟩ := x3.back hi
          have il := (List.getElem?_eq_some_iff.mp hf).1
          have e6 : frsOut ((rowAtS wd (Kp379.rowAt wd k) ⟨p, s, l == 1⟩).take (i + 1)) = frsOut ((rowAtS wd (Kp379.rowAt wd k) ⟨p, s, l == 1⟩).take i) ++ [f.1, f.2] := by
            rw [List.take_add_one, hf]
            exact frsOut_snoc _ _
          have len : (frsOut ((rowAtS wd (Kp379.rowAt wd k) ⟨p, s, l == 1⟩).take i)).length ≤ 6 := by
            rw [frsOut_len, List.length_take]
            omega
          refine ⟨_, rfl, .inl ⟨rfl, _, sqL x4⟩, _, rfl, la, q, _, _, rfl, rfl, x4, hq, Nat.le_of_lt (small1000 (by simp; omega)), ?_⟩
          refine ⟨Evl.Ex.mut x1 hlaH, by rw [upd_ne npl]; exact x2, x3.mono (fun a v ha => ha.upd x4 noTup_lst), ?_, _, rfl⟩
          rw [upd_same, e6]
          simp
        · rintro σ H' ⟨x1, x2, x3, x4, o6, rfl⟩
          rw [hEl.1, List.take_length] at x4
          exact ⟨_, rfl, kQ la H' hlaH x1 x4⟩
/-! ### tell_cost -/
def costOut (wd : Kp379.World) (s t p l k : Nat) : List Int := if (!Kp379.isSelf wd s || (!Kp379.isSelf wd t || !Kp379.isPlace wd p)) = true then [-2] else if (decide (1 < l) || decide (4 < k)) = true then [-22] else
  [0, (Kp380.cost wd s t p (l == 1) k).1, (Kp380.cost wd s t p (l == 1) k).2]
def sp_tell_cost (n : Nm) : Sp := fun vs H Q _ => ∃ (v : V) (wd : Kp379.World) (s t p l k : Nat), vs = [v, .int (s : Int), .int (t : Int), .int (p : Int), .int (l : Int), .int (k : Int)] ∧ HRead n wd v H ∧ WfW wd ∧ RetI (costOut wd s t p l k) H Q
theorem bt4 {k : Nat} (h : k ≤ 4) : bt k ≤ 4000 := by
  match k, h with
  | 0, _ => decide
  | 1, _ => decide
  | 2, _ => decide
  | 3, _ => decide
  | 4, _ => decide
theorem ok_tell_cost (D : Ds n K mg) : FnOk P w K mg base CX0 11 n.f_tell_cost n.fd_tell_cost P_tell_cost (sp_tell_cost n) := by
  have G_has_place := ok_has_place (P := P) (w := w) (base := base) D
  have G_has_self := ok_has_self (P := P) (w := w) (base := base) D
  have G_worth_table := ok_worth_table (P := P) (w := w) (base := base) D
  have G_difference := ok_difference (P := P) (w := w) (base := base) D
  refine D.d_tell_cost.F.ok sc_tell_cost (fun vs H Q E h => ?_) (fun cdv A outer sh H vs Q E hr h => ?_)
  · obtain ⟨v, wd, s, t, p, l, k, rfl, _⟩ := h
    rfl
  · obtain ⟨v, wd, s, t, p, l, k, rfl, hH, ww, kQ⟩ := h
    refine ⟨_, (pss_cons (ps_if (PW.pt (pw_or (pt_not (pt_val (pe_call G_has_self (hr.mono (by decide)) rfl D.d_has_self.g D.d_has_self.F.kp D.d_has_self.b .nil pass0 (pa_cons (pv 0) (pa_cons (pv 1) pa_nil))))) (pw_or (pt_not (pt_val (pe_call G_has_self (hr.mono (by decide)) rfl D.d_has_self.g D.d_has_self.F.kp D.d_has_self.b .nil pass0 (pa_cons (pv 0) (pa_cons (pv 2) pa_nil))))) (pw_or1 (pt_not (pt_val (pe_call G_has_place (hr.mono (by decide)) rfl D.d_has_place.g D.d_has_place.F.kp D.d_has_place.b .nil pass0 (pa_cons (pv 0) (pa_cons (pv 3) pa_nil)))))))))
        (pss_one (ps_ret (pe_lst (pa_cons (pe_const rfl D.g_NO_SUCH) pa_nil))))
        pss_nil)
      (pss_cons (ps_if (PW.pt (pw_or (pt_cmpR op_gt (pv 4) pe_int (nomark _)) (pw_or1 (pt_cmpR op_gt (pv 5) (pe_const rfl D.g_MOST_STEPS) (nomark _)))))
        (pss_one (ps_ret (pe_lst (pa_cons (pe_const rfl D.g_NOT_AS_TOLD) pa_nil))))
        pss_nil)
      (pss_cons (ps_set (i := 6) sc_tell_cost.nd rfl (Or.inl rfl) (pe_call G_worth_table (hr.mono (by decide)) rfl D.d_worth_table.g D.d_worth_table.F.kp D.d_worth_table.b .nil pass0 (pa_cons (pv 0) (pa_cons (pv 5) pa_nil))))
      (pss_cons (ps_set (i := 7) sc_tell_cost.nd rfl (Or.inl rfl) (pe_ix ix_list (pe_dget (hu_of hr) (pv 6) (pe_tup (pa_cons (pv 3) (pa_cons (pv 1) (pa_cons (pv 4) pa_nil)))) (fun _ _ => rfl)) (pv 1) (fun _ _ => rfl)))
      (pss_cons (ps_set (i := 8) sc_tell_cost.nd rfl (Or.inl rfl) (pe_ix ix_list (pe_dget (hu_of hr) (pv 6) (pe_tup (pa_cons (pv 3) (pa_cons (pv 2) (pa_cons (pv 4) pa_nil)))) (fun _ _ => rfl)) (pv 1) (fun _ _ => rfl)))
      (pss_one (ps_ret (pe_op op_cat (pe_lst (pa_cons pe_int pa_nil)) (pe_callTy call_list_of (by rfl) D.n_list (by decide +kernel) (pa_cons (pe_call G_difference (hr.mono (by decide)) rfl D.d_difference.g D.d_difference.F.kp D.d_difference.b .nil pass0 (pa_cons (pv 7) (pa_cons (pv 8) pa_nil))) pa_nil)))))))))), ?_⟩
    refine Evl.q_when (Evl.et_or (Evl.et_not (Evl.et_B (ev_has_self hH rfl rfl))) fun _ => Evl.et_or (Evl.et_not (Evl.et_B (ev_has_self hH rfl rfl))) fun _ => Evl.et_not (Evl.et_B (ev_has_place hH rfl rfl))) (fun c H1 e1 => ?_) (fun c H1 e1 => ?_)
    · refine ret_one ?_
      unfold costOut at kQ
      rw [if_pos c] at kQ
      exact kQ.mono e1
    · refine Evl.q_when (Evl.et_or (et_gt (m := 1) (x := l) (Evl.ev_var rfl)) fun _ => et_gt (m := 4) (x := k) (Evl.ev_var rfl)) (fun c2 H2 e2 => ?_) (fun c2 H2 e2 => ?_)
      · refine ret_one ?_
        unfold costOut at kQ
        rw [if_neg (by rw [c]; decide), if_pos c2] at kQ
        exact kQ.mono (e1.trans e2)
      · unfold costOut at kQ
        rw [if_neg (by rw [c]; decide), if_neg (by rw [c2]; decide)] at kQ
        simp only [Bool.or_eq_false_iff, Bool.not_eq_false', Kp379.isPlace, Kp379.isSelf, decide_eq_true_eq] at c
        obtain ⟨hs, ht, hp⟩ := c
        simp only [Bool.or_eq_false_iff, decide_eq_false_iff_not] at c2
        have o1 : OkS wd ⟨p, s, l == 1⟩ := ⟨hp, hs⟩
        have o2 : OkS wd ⟨p, t, l == 1⟩ := ⟨hp, ht⟩
        have e12 := e1.trans e2
        have hH2 := hH.mono e12
        refine ⟨_, rfl, _, rfl, _, wd, k, rfl, hH2, ww, by omega, fun vt H3 e3 hT => ?_⟩
        obtain ⟨pt, kvs, rfl, hpt, hrow⟩ := hT
        -- one worth out of the table
        have one : ∀ (x : Stand), OkS wd x → ∃ u pl vls vf, valV kvs (sk x) = some u ∧ u = .ref pl ∧ H3 pl = some (.lst vls) ∧ vls[s]? = some vf ∧ IsFr (Kp379.worth wd s x k) vf H3 ∧ Bits 4000 (Kp379.worth wd s x k) := by
          intro x ox
          obtain ⟨u, hu, pl, vls, rfl, hpl, hEl⟩ := hrow x ox
          obtain ⟨rl, rb⟩ := rowOk ww k x ox
          have hg : (rowAtS wd (Kp379.rowAt wd k) x)[s]? = some (Kp379.worth wd s x k) := by
            show _ = some ((rowAtS wd (Kp379.rowAt wd k) x).getD s (0, 1))
            rw [List.getD_eq_getElem?_getD, List.getElem?_eq_getElem (by omega)]
            rfl
          obtain ⟨vf, h1, h2⟩ := hEl.2 s _ hg
          exact ⟨_, pl, vls, vf, hu, rfl, hpl, h1, h2, (rb s hs).up (bt4 (by omega))⟩
        obtain ⟨_, pl1, vl1, f1, u1, rfl, hl1, g1, i1, b1⟩ := one _ o1
        obtain ⟨_, pl2, vl2, f2, u2, rfl, hl2, g2, i2, b2'⟩ := one _ o2
        refine ⟨_, rfl, _, rfl, _, rfl, _, rfl, by show 3 ≤ sizeLine; decide, fun t1 ht1 => ?_⟩
        have e4 : Ex H3 (upd H3 t1 (.tup [.int (p : Int), .int (s : Int), .int (l : Int)])) := Evl.Ex.new ht1
        refine ⟨pt, _, rfl, by rw [← u1]; exact DGet.t (e4 _ _ hpt) (tupS (by omega) upd_same), _, rfl, pl1, _, _, _, rfl, rfl, sqL (e4 _ _ hl1), atI_nat g1, ?_⟩
        refine ⟨_, rfl, _, rfl, _, rfl, _, rfl, by show 3 ≤ sizeLine; decide, fun t2 ht2 => ?_⟩
        have e5 : Ex (upd H3 t1 (.tup [.int (p : Int), .int (s : Int), .int (l : Int)])) (upd (upd H3 t1 (.tup [.int (p : Int), .int (s : Int), .int (l : Int)])) t2 (.tup [.int (p : Int), .int (t : Int), .int (l : Int)])) := Evl.Ex.new ht2
        have e45 := e4.trans e5
        refine ⟨pt, _, rfl, by rw [← u2]; exact DGet.t (e45 _ _ hpt) (tupS (by omega) upd_same), _, rfl, pl2, _, _, _, rfl, rfl, sqL (e45 _ _ hl2), atI_nat g2, ?_⟩
        refine ⟨by show 1 ≤ sizeLine; decide, fun q1 hq1 => ?_⟩
        have e6 := e45.trans (Evl.Ex.new (o := .lst [.int 0]) hq1)
        refine ⟨_, rfl, _, rfl, _, _, _, _, rfl, i1.mono e6, i2.mono e6, b1, b2', fun vd H4 e7 hd => ?_⟩
        obtain ⟨pd, rfl, hpd⟩ := hd
        refine ⟨pd, _, rfl, Or.inr (sqT hpd), fun q2 hq2 => ?_⟩
        have e8 : Ex H4 (upd H4 q2 (.lst [.int (Kp346.sub (Kp379.worth wd s ⟨p, s, l == 1⟩ k) (Kp379.worth wd s ⟨p, t, l == 1⟩ k)).1, .int (Kp346.sub (Kp379.worth wd s ⟨p, s, l == 1⟩ k) (Kp379.worth wd s ⟨p, t, l == 1⟩ k)).2])) := Evl.Ex.new hq2
        refine ⟨q1, q2, _, _, rfl, rfl, e8 _ _ (e7 _ _ upd_same), upd_same, by show 3 ≤ sizeLine; decide, fun q3 hq3 => ?_⟩
        exact (kQ.mono (((e12.trans e3).trans e6).trans (e7.trans e8))).new hq3
/-! ### tell_lonely -/
def lonelyOut (wd : Kp379.World) : List Int := ((Kp380.lonely wd).length : Int) :: (Kp380.lonely wd).flatMap fun x => [(x.1 : Int), (x.2 : Int)]
theorem flat2_len {α : Type} (l : List α) (f g : α → Int) : (l.flatMap fun x => [f x, g x]).length = 2 * l.length := by
  induction l with
  | nil => rfl
  | cons x r ih =>
    rw [List.flatMap_cons, List.length_append, ih]
    simp only [List.length_cons, List.length_nil]
    omega
def sp_tell_lonely (n : Nm) : Sp := fun vs H Q _ => ∃ (v : V) (wd : Kp379.World), vs = [v] ∧ HRead n wd v H ∧ WfW wd ∧ RetI (lonelyOut wd) H Q
theorem ok_tell_lonely (D : Ds n K mg) : FnOk P w K mg base CX0 4 n.f_tell_lonely n.fd_tell_lonely P_tell_lonely (sp_tell_lonely n) := by
  have G_lonely_acts := ok_lonely_acts (P := P) (w := w) (base := base) D
  refine D.d_tell_lonely.F.ok sc_tell_lonely (fun vs H Q E h => ?_) (fun cdv A outer sh H vs Q E hr h => ?_)
  · obtain ⟨v, wd, rfl, _⟩ := h
    rfl
  · obtain ⟨v, wd, rfl, hH, ww, kQ⟩ := h
    refine ⟨_, (pss_cons (ps_set (i := 1) sc_tell_lonely.nd rfl (Or.inl rfl) (pe_call G_lonely_acts (hr.mono (by decide)) rfl D.d_lonely_acts.g D.d_lonely_acts.F.kp D.d_lonely_acts.b .nil pass0 (pa_cons (pv 0) pa_nil)))
      (pss_one (ps_ret (pe_op op_cat (pe_lst (pa_cons (pe_op op_fdivW (pe_callB call_len_seq (by rfl) D.n_len PySem.boot_len (pa_cons (pv 1) pa_nil)) pe_int) pa_nil)) (pv 1))))), ?_⟩
    refine ⟨_, rfl, _, wd, rfl, hH, ww, fun v p H1 e1 hv hp h1 => ?_⟩
    subst hv
    have hl : ((lonelyTo wd wd.n).map V.int).length = 2 * (Kp380.lonely wd).length := by
      rw [List.length_map, ← lonely_flat]
      exact flat2_len _ _ _
    have n4 := ww.n4
    have hs := lonelyTo_len ww wd.n (Nat.le_refl _)
    refine ⟨_, rfl, p, _, rfl, Or.inl (sqL h1), _, _, rfl, rfl, wide_div (b := 9000) (by decide) (by decide) (by decide) (by decide), by show 1 ≤ sizeLine; decide, fun q1 hq1 => ?_⟩
    have e2 := Evl.Ex.new (o := .lst [.int ((((lonelyTo wd wd.n).map V.int).length : Int) / 2)]) hq1
    refine ⟨_, rfl, q1, p, _, _, rfl, rfl, upd_same, e2 _ _ h1, Nat.le_of_lt (small1000 (by simp; omega)), fun q2 hq2 => ?_⟩
    refine kQ q2 _ (fresh_back (e1.trans e2) hq2) ((e1.trans e2).trans (Evl.Ex.new hq2)) ?_
    rw [upd_same]
    unfold lonelyOut
    rw [lonely_flat]
    have e3 : ((((lonelyTo wd wd.n).map V.int).length : Nat) : Int) / 2 = ((Kp380.lonely wd).length : Int) := by
      rw [hl]
      omega
    show some (HO.lst (V.int (((((lonelyTo wd wd.n).map V.int).length : Nat) : Int) / 2) :: (lonelyTo wd wd.n).map V.int)) = _
    rw [e3]
    rfl
/-! ### put_helper -/
def standTo (h : Kp381.House) (p s l : Nat) : Kp381.State × List Int := if (!Kp379.isPlace h.world p || !Kp379.isSelf h.world s) = true then (some h, [-2]) else if 1 < l then (some h, [-22]) else (some { h with now := ⟨p, s, l == 1⟩ }, standOut h.now)
def sp_put_helper (n : Nm) : Sp := fun vs H Q _ => ∃ (X : List Addr) (ph : Addr) (S : List Addr) (h : Kp381.House) (p s l : Nat), vs = [.ref ph, .int (p : Int), .int (s : Int), .int (l : Int)] ∧ StAt n X (some h) ph S H ∧ Told n X (standTo h p s l).1 (standTo h p s l).2 ph S H Q
theorem houseF_ne {np nv : Nat} {ao so lo po : Addr} {a : Kp379.Act} {pp pw : Addr} : actF pp pw a ≠ houseF np nv ao so lo po := by
  intro z
  have h1 : (actF pp pw a).length = (houseF np nv ao so lo po).length := by rw [z]
  exact absurd h1 (by show ¬ (4 = 6); decide)
theorem ok_put_helper (D : Ds n K mg) : FnOk P w K mg base CX0 2 n.f_put_helper n.fd_put_helper P_put_helper (sp_put_helper n) := by
  have G_has_place := ok_has_place (P := P) (w := w) (base := base) D
  have G_has_self := ok_has_self (P := P) (w := w) (base := base) D
  have G_tell_stand := ok_tell_stand (P := P) (w := w) (base := base) D
  refine D.d_put_helper.F.ok sc_put_helper (fun vs H Q E h => ?_) (fun cdv A outer sh H vs Q E hr h => ?_)
  · obtain ⟨X, ph, S, h, p, s, l, rfl, _⟩ := h
    rfl
  · obtain ⟨X, ph, S, h, p, s, l, rfl, hS, kQ⟩ := h
    refine ⟨_, (pss_cons (ps_if (PW.pt (pw_or (pt_not (pt_val (pe_call G_has_place (hr.mono (by decide)) rfl D.d_has_place.g D.d_has_place.F.kp D.d_has_place.b .nil pass0 (pa_cons (pv 0) (pa_cons (pv 1) pa_nil))))) (pw_or1 (pt_not (pt_val (pe_call G_has_self (hr.mono (by decide)) rfl D.d_has_self.g D.d_has_self.F.kp D.d_has_self.b .nil pass0 (pa_cons (pv 0) (pa_cons (pv 2) pa_nil))))))))
        (pss_one (ps_ret (pe_lst (pa_cons (pe_const rfl D.g_NO_SUCH) pa_nil))))
        pss_nil)
      (pss_cons (ps_if (pt_cmpR op_gt (pv 3) pe_int (nomark _))
        (pss_one (ps_ret (pe_lst (pa_cons (pe_const rfl D.g_NOT_AS_TOLD) pa_nil))))
        pss_nil)
      (pss_cons (ps_set (i := 4) sc_put_helper.nd rfl (Or.inl rfl) (pe_call G_tell_stand (hr.mono (by decide)) rfl D.d_tell_stand.g D.d_tell_stand.F.kp D.d_tell_stand.b .nil pass0 (pa_cons (pv 0) pa_nil)))
      (pss_cons (ps_fld (pv 0) (pe_tup (pa_cons (pv 1) (pa_cons (pv 2) (pa_cons (pv 3) pa_nil)))) rfl)
      (pss_one (ps_ret (pv 4))))))), ?_⟩
    have hS' := hS
    obtain ⟨off, dx, ao, so, lo, po, vas, vlog, vps, rfl, a⟩ := hS'
    refine Evl.q_when (et_ps a.read rfl rfl rfl) (fun c H1 e1 => ?_) (fun c H1 e1 => ?_)
    · refine ret_one ?_
      unfold standTo at kQ
      rw [if_pos c] at kQ
      exact (kQ.pure hS).mono e1
    · refine Evl.q_when (et_gt (m := 1) (x := l) (Evl.ev_var rfl)) (fun c2 H2 e2 => ?_) (fun c2 H2 e2 => ?_)
      · refine ret_one ?_
        unfold standTo at kQ
        rw [if_neg (by rw [c]; decide), if_pos (of_decide_eq_true c2)] at kQ
        exact (kQ.pure hS).mono (e1.trans e2)
      · unfold standTo at kQ
        rw [if_neg (by rw [c]; decide), if_neg (of_decide_eq_false c2)] at kQ
        simp only [Bool.or_eq_false_iff, Bool.not_eq_false', Kp379.isPlace, Kp379.isSelf, decide_eq_true_eq] at c
        have l1 : l ≤ 1 := by have := of_decide_eq_false c2; omega
        have e12 := e1.trans e2
        have a2 := a.mono e12
        obtain ⟨so', h1, h2⟩ := a2.stand
        cases h1
        refine ⟨_, rfl, ph, dx, so, _, h.now, rfl, a2.hp, houseF_stand, h2, fun q H3 hq0 e3 hq => ?_⟩
        refine ⟨_, rfl, _, rfl, _, rfl, by show 3 ≤ sizeLine; decide, fun t ht => ?_⟩
        have e4 : Ex H3 (upd H3 t (.tup [.int (p : Int), .int (s : Int), .int (l : Int)])) := Evl.Ex.new ht
        have a4 := (a2.mono e3).mono e4
        refine ⟨_, rfl, ph, n.C_House, dx, _, rfl, a4.hp, D.c_House.cl, D.House_stand, houseF_small, ?_⟩
        refine ⟨_, rfl, ?_⟩
        rw [put_stand]
        have nq : q ≠ ph := fun z => by
          have := e4 _ _ hq
          rw [z, a4.hp] at this
          cases this
        have a3 := a2.mono e3
        have off3 := off.mono (e12.trans e3)
        have ht4 : IsStand ⟨p, s, l == 1⟩ (.ref t) (er ([ph, ao, lo, po] ++ X) (upd H3 t (.tup [.int (p : Int), .int (s : Int), .int (l : Int)]))) := by
          refine ⟨t, rfl, er_of ?_ (a3.new off3 ht)⟩
          rw [upd_same]
          show some (HO.tup [V.int (p : Int), V.int (s : Int), V.int (l : Int)]) = some (HO.tup [V.int (p : Int), V.int (s : Int), V.int (b2 (l == 1))])
          rw [b2_eq l1]
        have a5 := a4.setStand ht4 (show OkS h.world ⟨p, s, l == 1⟩ from c)
        have kp : ∀ b o, H b = some o → b ∉ [ph, ao, lo, po] → (upd (upd H3 t (.tup [.int (p : Int), .int (s : Int), .int (l : Int)])) ph (.ins n.C_House dx (houseF h.world.n h.world.v ao t lo po))) b = some o := fun b o hb nb => by
          rw [upd_ne (fun z => nb (by rw [z]; exact List.mem_cons_self))]
          exact ((e12.trans e3).trans e4) _ _ hb
        refine kQ q _ [ph, ao, lo, po] ⟨off.next kp (fun b m => Or.inl m), dx, ao, t, lo, po, vas, vlog, vps, rfl, a5⟩ ⟨kp, fun b m => Or.inl m⟩ (fresh_back e12 hq0) ?_
        rw [upd_ne nq]
        exact e4 _ _ hq
end
end CI
namespace CI
open PySem PySem.Spec PyProof.Rows L2
open Evl (Ex fresh_back Ev EvT EvA EvL)
open Kp379 (Stand)
section
variable {P : Program} {w : World} {K : PySem.W.Frag} {mg : Str → Option Value} {base : Heap} {n : Nm}
/-! ### House's __init__ -/
def sp_House_init (n : Nm) : Sp := fun vs H Q _ => ∃ (p dx : Addr), vs = [.ref p] ∧ H p = some (.ins n.C_House dx []) ∧ ∀ H' : Hp, StAt n [] none p [p] H' → (∀ b o, H b = some o → b ≠ p → H' b = some o) → Q .non H'
theorem ok_House_init (D : Ds n K mg) : FnOk P w K mg base CX0 1 n.f_House n.fd_House P_House___init__ (sp_House_init n) := by
  refine D.c_House.F.ok sc_House___init__ (fun vs H Q E h => ?_) (fun cdv A outer s H vs Q E hr h => ?_)
  · obtain ⟨p, dx, rfl, _⟩ := h
    rfl
  · obtain ⟨p, dx, rfl, hp, k⟩ := h
    refine ⟨_, (pss_cons (ps_fld (pv 0) pe_int rfl)
      (pss_cons (ps_fld (pv 0) pe_int rfl)
      (pss_cons (ps_fld (pv 0) (pe_lst pa_nil) rfl)
      (pss_cons (ps_fld (pv 0) (pe_tup (pa_cons pe_int (pa_cons pe_int (pa_cons pe_int pa_nil)))) rfl)
      (pss_cons (ps_fld (pv 0) (pe_lst pa_nil) rfl)
      (pss_one (ps_fld (pv 0) (pe_lst pa_nil) rfl))))))), ?_⟩
    refine ⟨_, rfl, p, n.C_House, dx, _, rfl, hp, D.c_House.cl, D.House_places, (by show 0 < 1000; decide), ?_⟩
    refine ⟨_, rfl, p, n.C_House, dx, _, rfl, upd_same, D.c_House.cl, D.House_selves, (by show 1 < 1000; decide), ?_⟩
    -- what stood elsewhere
    have x0 : ∀ b o, H b = some o → b ≠ p → upd (upd H p (.ins n.C_House dx (putF "places" (.int 0) []))) p (.ins n.C_House dx (putF "selves" (.int 0) (putF "places" (.int 0) []))) b = some o := fun b o e hb => by
      rw [upd_ne hb, upd_ne hb]
      exact e
    have keep : ∀ {G : Hp} {q : Addr} {o1 o2 : HO}, (∀ b o, H b = some o → b ≠ p → G b = some o) → G q = none → ∀ b o, H b = some o → b ≠ p → upd (upd G q o1) p o2 b = some o := fun {G q o1 o2} x hq b o e hb => by
      have h1 := x b o e hb
      rw [upd_ne hb, upd_ne (ne_of_none h1 hq)]
      exact h1
    refine ⟨by show 0 ≤ sizeLine; decide, fun q1 h1 => ?_⟩
    have n1 : p ≠ q1 := ne_of_none upd_same h1
    have x1 := keep (o1 := .lst []) (o2 := .ins n.C_House dx (putF "acts" (.ref q1) (putF "selves" (.int 0) (putF "places" (.int 0) [])))) x0 h1
    refine ⟨_, rfl, p, n.C_House, dx, _, rfl, by rw [upd_ne n1]; exact upd_same, D.c_House.cl, D.House_acts, Nat.lt_of_le_of_lt (putF_small (putF_small (m := 0) (Nat.le_refl _))) (by decide), ?_⟩
    refine ⟨by show 3 ≤ sizeLine; decide, fun q2 h2 => ?_⟩
    have n2 : p ≠ q2 := ne_of_none upd_same h2
    have x2 := keep (o1 := .tup [.int 0, .int 0, .int 0]) (o2 := .ins n.C_House dx (putF "stand" (.ref q2) (putF "acts" (.ref q1) (putF "selves" (.int 0) (putF "places" (.int 0) []))))) x1 h2
    refine ⟨_, rfl, p, n.C_House, dx, _, rfl, by rw [upd_ne n2]; exact upd_same, D.c_House.cl, D.House_stand, Nat.lt_of_le_of_lt (putF_small (putF_small (putF_small (m := 0) (Nat.le_refl _)))) (by decide), ?_⟩
    refine ⟨by show 0 ≤ sizeLine; decide, fun q3 h3 => ?_⟩
    have n3 : p ≠ q3 := ne_of_none upd_same h3
    have x3 := keep (o1 := .lst []) (o2 := .ins n.C_House dx (putF "log" (.ref q3) (putF "stand" (.ref q2) (putF "acts" (.ref q1) (putF "selves" (.int 0) (putF "places" (.int 0) [])))))) x2 h3
    refine ⟨_, rfl, p, n.C_House, dx, _, rfl, by rw [upd_ne n3]; exact upd_same, D.c_House.cl, D.House_log, Nat.lt_of_le_of_lt (putF_small (putF_small (putF_small (putF_small (m := 0) (Nat.le_refl _))))) (by decide), ?_⟩
    refine ⟨by show 0 ≤ sizeLine; decide, fun q4 h4 => ?_⟩
    have n4 : p ≠ q4 := ne_of_none upd_same h4
    have x4 := keep (o1 := .lst []) (o2 := .ins n.C_House dx (putF "promises" (.ref q4) (putF "log" (.ref q3) (putF "stand" (.ref q2) (putF "acts" (.ref q1) (putF "selves" (.int 0) (putF "places" (.int 0) []))))))) x3 h4
    refine ⟨_, rfl, p, n.C_House, dx, _, rfl, by rw [upd_ne n4]; exact upd_same, D.c_House.cl, D.House_promises, Nat.lt_of_le_of_lt (putF_small (putF_small (putF_small (putF_small (putF_small (m := 0) (Nat.le_refl _)))))) (by decide), ?_⟩
    refine k _ ⟨fun b hb => absurd hb List.not_mem_nil, rfl, dx, q1, q2, q3, q4, ?_⟩ x4
    · refine Eq.trans upd_same (congrArg (fun q => some (HO.ins n.C_House dx q)) ?_)
      have e1 : putF "selves" (V.int 0) [(("places" : Str), V.int 0)] = [(("places" : Str), V.int 0), ("selves", V.int 0)] := (put_past (by decide +kernel)).trans rfl
      have e2 : putF "acts" (V.ref q1) [(("places" : Str), V.int 0), ("selves", V.int 0)] = [(("places" : Str), V.int 0), ("selves", V.int 0), ("acts", V.ref q1)] := (put_past (by decide +kernel)).trans (congrArg _ ((put_past (by decide +kernel)).trans rfl))
      have e3 : putF "stand" (V.ref q2) [(("places" : Str), V.int 0), ("selves", V.int 0), ("acts", V.ref q1)] = [(("places" : Str), V.int 0), ("selves", V.int 0), ("acts", V.ref q1), ("stand", V.ref q2)] := (put_past (by decide +kernel)).trans (congrArg _ ((put_past (by decide +kernel)).trans (congrArg _ ((put_past (by decide +kernel)).trans rfl))))
      have e4 : putF "log" (V.ref q3) [(("places" : Str), V.int 0), ("selves", V.int 0), ("acts", V.ref q1), ("stand", V.ref q2)] = [(("places" : Str), V.int 0), ("selves", V.int 0), ("acts", V.ref q1), ("stand", V.ref q2), ("log", V.ref q3)] := (put_past (by decide +kernel)).trans (congrArg _ ((put_past (by decide +kernel)).trans (congrArg _ ((put_past (by decide +kernel)).trans (congrArg _ ((put_past (by decide +kernel)).trans rfl))))))
      have e5 : putF "promises" (V.ref q4) [(("places" : Str), V.int 0), ("selves", V.int 0), ("acts", V.ref q1), ("stand", V.ref q2), ("log", V.ref q3)] = [(("places" : Str), V.int 0), ("selves", V.int 0), ("acts", V.ref q1), ("stand", V.ref q2), ("log", V.ref q3), ("promises", V.ref q4)] := (put_past (by decide +kernel)).trans (congrArg _ ((put_past (by decide +kernel)).trans (congrArg _ ((put_past (by decide +kernel)).trans (congrArg _ ((put_past (by decide +kernel)).trans (congrArg _ ((put_past (by decide +kernel)).trans rfl))))))))
      show putF "promises" (V.ref q4) (putF "log" (V.ref q3) (putF "stand" (V.ref q2) (putF "acts" (V.ref q1) (putF "selves" (V.int 0) [(("places" : Str), V.int 0)])))) = _
      rw [e1, e2, e3, e4, e5]
      rfl
/-! ### furnish -/
def freshH (p v : Nat) : Kp381.House := ⟨⟨p, v, List.replicate p []⟩, ⟨0, 0, false⟩, [], []⟩
theorem StAt.field {n : Nm} {X : List Addr} {st : Kp381.State} {ph : Addr} {S : List Addr} {H : Hp} (a : StAt n X st ph S H) : ∃ dx np nv ao so lo po, H ph = some (.ins n.C_House dx (houseF np nv ao so lo po)) := by
  cases st with
  | none =>
    obtain ⟨_, h0, dx, ao, so, lo, po, h1⟩ := a
    exact ⟨dx, 0, 0, ao, so, lo, po, h1⟩
  | some h =>
    obtain ⟨_, dx, ao, so, lo, po, vas, vlog, vps, h0, h1⟩ := a
    exact ⟨dx, _, _, ao, so, lo, po, h1.hp⟩
def sp_furnish (n : Nm) : Sp := fun vs H Q _ => ∃ (X : List Addr) (ph dx : Addr) (np nv : Nat) (ao so lo po : Addr) (p v : Nat), (∀ b ∈ X, (∃ xs, H b = some (.lst xs)) ∧ b ≠ ph) ∧ vs = [.ref ph, .int (p : Int), .int (v : Int)] ∧ H ph = some (.ins n.C_House dx (houseF np nv ao so lo po)) ∧ 2 ≤ p ∧ p ≤ 4 ∧ 1 ≤ v ∧ v ≤ 3 ∧
  ∀ H' S', StAt n X (some (freshH p v)) ph S' H' → (∀ b o, H b = some o → b ≠ ph → H' b = some o) → (∀ b, b ∈ S' → b = ph ∨ H b = none) → Q .non H'
theorem wf_fresh {p v : Nat} (h1 : 2 ≤ p) (h2 : p ≤ 4) (h3 : 1 ≤ v) (h4 : v ≤ 3) : WfW (freshH p v).world :=
  ⟨h1, h2, h3, h4, List.length_replicate, fun l hl => by rw [(List.mem_replicate.mp hl).2]; exact Nat.zero_le _, fun l hl a ha => by rw [(List.mem_replicate.mp hl).2] at ha; cases ha⟩
theorem ok_furnish (D : Ds n K mg) : FnOk P w K mg base CX0 1 n.f_furnish n.fd_furnish P_furnish (sp_furnish n) := by
  refine D.d_furnish.F.ok sc_furnish (fun vs H Q E h => ?_) (fun cdv A outer s H vs Q E hr h => ?_)
  · obtain ⟨X, ph, dx, np, nv, ao, so, lo, po, p, v, _, rfl, _⟩ := h
    rfl
  · obtain ⟨X, ph, dx, np, nv, ao, so, lo, po, p, v, off, rfl, hp, p2, p4, v1, v3, k⟩ := h
    refine ⟨_, (pss_cons (ps_fld (pv 0) (pv 1) rfl)
      (pss_cons (ps_fld (pv 0) (pv 2) rfl)
      (pss_cons (ps_fld (pv 0) (pe_lc (own := [("place", 3)]) (g := gName 3) (tt := tYes) rfl sc_furnish.nd (pi_range1 (by rfl) D.n_range (pa_cons (pv 1) pa_nil)) (blkOk_by (own := [("place", 3)]) (N := N_furnish) (sc := defScope s_furnish) (by decide +kernel)) (fun _ _ _ _ _ => (pg_name (i := 3) sc_furnish.nd rfl (Or.inl rfl))) (fun _ _ _ _ _ => pts_nil) (fun _ _ _ _ _ => (pe_lst pa_nil))) rfl)
      (pss_cons (ps_fld (pv 0) (pe_tup (pa_cons pe_int (pa_cons pe_int (pa_cons pe_int pa_nil)))) rfl)
      (pss_cons (ps_fld (pv 0) (pe_lst pa_nil) rfl)
      (pss_one (ps_fld (pv 0) (pe_lst pa_nil) rfl))))))), ?_⟩
    refine ⟨_, rfl, _, rfl, ph, n.C_House, dx, _, rfl, hp, D.c_House.cl, D.House_places, houseF_small, ?_⟩
    rw [put_places]
    refine ⟨_, rfl, _, rfl, ph, n.C_House, dx, _, rfl, upd_same, D.c_House.cl, D.House_selves, houseF_small, ?_⟩
    rw [put_selves, upd_upd]
    -- what stood elsewhere, stands
    have K1 : ∀ b o, H b = some o → b ≠ ph → upd H ph (.ins n.C_House dx (houseF p v ao so lo po)) b = some o := fun b o e hb => by rw [upd_ne hb]; exact e
    refine ⟨_, rfl, (p : Int), rfl, by omega, by omega, fun Dl hD => ?_⟩
    have nn : ((p : Int)).toNat = p := by omega
    have hDp : Dl ≠ ph := fun z => by rw [z, upd_same] at hD; cases hD
    have hDH : H Dl = none := by rw [upd_ne hDp] at hD; exact hD
    refine lc_range (lo := 0) (n := ((p : Int)).toNat) (fun i H' => Ex (upd H ph (.ins n.C_House dx (houseF p v ao so lo po))) H' ∧ ∃ vs, H' Dl = some (.lst vs) ∧ vs.length = i ∧ ∀ (j : Nat) (u : V), vs[j]? = some u → ∃ q, u = .ref q ∧ H' q = some (.lst []) ∧ q ≠ Dl ∧ H q = none) ⟨Evl.Ex.new hD, [], upd_same, rfl, fun j u h => by simp at h⟩ ?_ ?_
    · rintro i H' hi ⟨e1, vs, h1, h2, h3⟩
      refine ⟨rfl, ?_⟩
      refine ⟨by show 0 ≤ sizeLine; decide, fun q hq => ?_⟩
      have n1 : Dl ≠ q := ne_of_none h1 hq
      refine ⟨vs, by rw [upd_ne n1]; exact h1, small1000 (by omega), Evl.Ex.mut (e1.trans (Evl.Ex.new hq)) hD, vs ++ [.ref q], upd_same, by rw [List.length_append, h2]; rfl, fun j u hu => ?_⟩
      by_cases c : j < vs.length
      · rw [List.getElem?_append_left c] at hu
        obtain ⟨q', h4, h5, h6, h7⟩ := h3 j u hu
        exact ⟨q', h4, by rw [upd_ne h6, upd_ne (ne_of_none h5 hq)]; exact h5, h6, h7⟩
      · rw [List.getElem?_append_right (by omega)] at hu
        have : u = .ref q := by
          cases e : j - vs.length with
          | zero => rw [e] at hu; exact (Option.some.inj hu).symm
          | succ m => rw [e] at hu; cases hu
        refine ⟨q, this, by rw [upd_ne (fun z => n1 z.symm)]; exact upd_same, fun z => n1 z.symm, ?_⟩
        have x1 := fresh_back e1 hq
        rw [upd_ne (fun z => by rw [z] at hq; rw [e1 _ _ upd_same] at hq; cases hq)] at x1
        exact x1
    · rintro H1 ⟨e1, vs, h1, h2, h3⟩
      have hp1 := e1 _ _ (upd_same (H := H) (a := ph) (o := .ins n.C_House dx (houseF p v ao so lo po)))
      refine ⟨_, rfl, ph, n.C_House, dx, _, rfl, hp1, D.c_House.cl, D.House_acts, houseF_small, ?_⟩
      rw [put_acts]
      refine ⟨by show 3 ≤ sizeLine; decide, fun t ht => ?_⟩
      have nt : t ≠ ph := fun z => by rw [z, upd_same] at ht; cases ht
      have ht1 : H1 t = none := by rw [upd_ne nt] at ht; exact ht
      refine ⟨_, rfl, ph, n.C_House, dx, _, rfl, by rw [upd_ne (fun z => nt z.symm)]; exact upd_same, D.c_House.cl, D.House_stand, houseF_small, ?_⟩
      rw [put_stand]
      refine ⟨by show 0 ≤ sizeLine; decide, fun l2 hl2 => ?_⟩
      have nl : l2 ≠ ph := fun z => by rw [z, upd_same] at hl2; cases hl2
      have nlt : l2 ≠ t := fun z => by rw [z, upd_ne nt, upd_same] at hl2; cases hl2
      have hl1 : H1 l2 = none := by rw [upd_ne nl, upd_ne nlt, upd_ne nl] at hl2; exact hl2
      refine ⟨_, rfl, ph, n.C_House, dx, _, rfl, by rw [upd_ne (fun z => nl z.symm)]; exact upd_same, D.c_House.cl, D.House_log, houseF_small, ?_⟩
      rw [put_log]
      refine ⟨by show 0 ≤ sizeLine; decide, fun l3 hl3 => ?_⟩
      have ml : l3 ≠ ph := fun z => by rw [z, upd_same] at hl3; cases hl3
      have mll : l3 ≠ l2 := fun z => by rw [z, upd_ne nl, upd_same] at hl3; cases hl3
      have mlt : l3 ≠ t := fun z => by rw [z, upd_ne nt, upd_ne (fun z => nlt z.symm), upd_ne nt, upd_same] at hl3; cases hl3
      have hm1 : H1 l3 = none := by rw [upd_ne ml, upd_ne mll, upd_ne ml, upd_ne mlt, upd_ne ml] at hl3; exact hl3
      refine ⟨_, rfl, ph, n.C_House, dx, _, rfl, by rw [upd_ne (fun z => ml z.symm)]; exact upd_same, D.c_House.cl, D.House_promises, houseF_small, ?_⟩
      rw [put_promises]
      -- the heap at the end
      generalize hG : (upd (upd (upd (upd (upd (upd (upd H1 ph (.ins n.C_House dx (houseF p v Dl so lo po))) t (.tup [.int 0, .int 0, .int 0])) ph (.ins n.C_House dx (houseF p v Dl t lo po))) l2 (.lst [])) ph (.ins n.C_House dx (houseF p v Dl t l2 po))) l3 (.lst [])) ph (.ins n.C_House dx (houseF p v Dl t l2 l3))) = G
      have at1 : ∀ b, b ≠ ph → b ≠ t → b ≠ l2 → b ≠ l3 → G b = H1 b := fun b b1 b2 b3 b4 => by
        rw [← hG, upd_ne b1, upd_ne b4, upd_ne b1, upd_ne b3, upd_ne b1, upd_ne b2, upd_ne b1]
      have gp : G ph = some (.ins n.C_House dx (houseF p v Dl t l2 l3)) := by rw [← hG]; exact upd_same
      have g2 : G l2 = some (.lst []) := by rw [← hG, upd_ne nl, upd_ne (fun z => mll z.symm), upd_ne nl, upd_same]
      have g3 : G l3 = some (.lst []) := by rw [← hG, upd_ne ml, upd_same]
      have gt : G t = some (.tup [.int 0, .int 0, .int 0]) := by rw [← hG, upd_ne nt, upd_ne (fun z => mlt z.symm), upd_ne nt, upd_ne (fun z => nlt z.symm), upd_ne nt, upd_same]
      have nDt : Dl ≠ t := ne_of_none h1 ht1
      have nDl : Dl ≠ l2 := ne_of_none h1 hl1
      have nDm : Dl ≠ l3 := ne_of_none h1 hm1
      -- new addresses are none of the others'
      have fr : ∀ q, H1 q = none → q ∉ X := fun q hq m => by
        obtain ⟨⟨xs, x1⟩, x2⟩ := off q m
        rw [e1 _ _ (K1 q _ x1 x2)] at hq
        cases hq
      have kp : ∀ b o, H b = some o → b ≠ ph → G b = some o := fun b o e hb => by
        have x1 := e1 _ _ (K1 b o e hb)
        rw [at1 b hb (ne_of_none x1 ht1) (ne_of_none x1 hl1) (ne_of_none x1 hm1)]
        exact x1
      have kn : ∀ b, b ∈ [ph, Dl, l2, l3] → b = ph ∨ H b = none := fun b hb => by
        simp only [List.mem_cons, List.not_mem_nil, or_false] at hb
        rcases hb with z | z | z | z
        · exact Or.inl z
        · exact Or.inr (by rw [z]; exact hDH)
        · refine Or.inr ?_
          rw [z]
          have := fresh_back e1 hl1
          rw [upd_ne nl] at this
          exact this
        · refine Or.inr ?_
          rw [z]
          have := fresh_back e1 hm1
          rw [upd_ne ml] at this
          exact this
      refine k _ [ph, Dl, l2, l3] ⟨fun b hb => ?_, dx, Dl, t, l2, l3, vs, [], [], rfl, gp, ?_, g2, g3, nDl, nDm, fun z => mll z.symm, ⟨?_, fun i a ha => ?_⟩, ⟨t, rfl, er_of gt ?_⟩, Each.nil, Each.nil, wf_fresh p2 p4 v1 v3, ⟨by show 0 < p; omega, by show 0 < v; omega⟩, Nat.zero_le _, fun q hq => (by cases hq), Nat.zero_le _, fun q hq => (by cases hq)⟩ kp kn
      · obtain ⟨⟨xs, x1⟩, x2⟩ := off b hb
        refine ⟨⟨xs, kp b _ x1 x2⟩, fun m => ?_⟩
        rcases kn b m with z | z
        · exact x2 z
        · rw [x1] at z
          cases z
      · rw [at1 Dl hDp nDt nDl nDm]
        exact h1
      · show vs.length = (List.replicate p []).length
        rw [h2, nn, List.length_replicate]
      · have ea : a = [] := (List.mem_replicate.mp (List.mem_of_getElem? ha)).2
        subst ea
        have hi : i < p := by
          have := (List.getElem?_eq_some_iff.mp ha).1
          rw [show (freshH p v).world.acts = List.replicate p [] from rfl, List.length_replicate] at this
          exact this
        have hu : vs[i]? = some vs[i] := List.getElem?_eq_getElem (by rw [h2, nn]; exact hi)
        obtain ⟨q, h4, h5, h6, h7⟩ := h3 i _ hu
        refine ⟨_, hu, q, [], h4, er_of ?_ ?_, Each.nil⟩
        · rw [at1 q (fun z => ?_) (ne_of_none h5 ht1) (ne_of_none h5 hl1) (ne_of_none h5 hm1)]
          · exact h5
          · rw [z, hp1] at h5
            cases h5
        · intro m
          simp only [List.mem_append, List.mem_cons, List.not_mem_nil, or_false] at m
          rcases m with (z | z | z | z) | z
          · rw [z, hp1] at h5; cases h5
          · exact h6 z
          · rw [z, hl1] at h5; cases h5
          · rw [z, hm1] at h5; cases h5
          · obtain ⟨⟨xs, x1⟩, _⟩ := off q z
            rw [x1] at h7
            cases h7
      · intro m
        simp only [List.mem_append, List.mem_cons, List.not_mem_nil, or_false] at m
        rcases m with (z | z | z | z) | z
        · exact nt z
        · exact nDt z.symm
        · exact nlt z.symm
        · exact mlt z.symm
        · exact fr t ht1 z
/-! ### begin -/
def beginTo (st : Kp381.State) (p v : Nat) : Kp381.State × List Int := if (!(decide (2 ≤ p) && decide (p ≤ 4)) || !(decide (1 ≤ v) && decide (v ≤ 3))) = true then (st, [-22]) else (some (freshH p v), [0])
def sp_begin (n : Nm) : Sp := fun vs H Q _ => ∃ (X : List Addr) (ph : Addr) (S : List Addr) (st : Kp381.State) (p v : Nat), vs = [.ref ph, .int (p : Int), .int (v : Int)] ∧ StAt n X st ph S H ∧ Told n X (beginTo st p v).1 (beginTo st p v).2 ph S H Q
theorem ok_begin (D : Ds n K mg) : FnOk P w K mg base CX0 2 n.f_begin n.fd_begin P_begin (sp_begin n) := by
  have G_furnish := ok_furnish (P := P) (w := w) (base := base) D
  refine D.d_begin.F.ok sc_begin (fun vs H Q E h => ?_) (fun cdv A outer s H vs Q E hr h => ?_)
  · obtain ⟨X, ph, S, st, p, v, rfl, _⟩ := h
    rfl
  · obtain ⟨X, ph, S, st, p, v, rfl, hS, kQ⟩ := h
    refine ⟨_, (pss_cons (ps_if (PW.pt (pw_or (pt_not (pt_chain op_le op_le pe_int (pv 1) pe_int)) (pw_or1 (pt_not (pt_chain op_le op_le pe_int (pv 2) pe_int)))))
        (pss_one (ps_ret (pe_lst (pa_cons (pe_const rfl D.g_NOT_AS_TOLD) pa_nil))))
        pss_nil)
      (pss_cons (ps_expr (pe_call G_furnish (hr.mono (by decide)) rfl D.d_furnish.g D.d_furnish.F.kp D.d_furnish.b .nil pass0 (pa_cons (pv 0) (pa_cons (pv 1) (pa_cons (pv 2) pa_nil)))))
      (pss_one (ps_ret (pe_lst (pa_cons pe_int pa_nil)))))), ?_⟩
    refine Evl.q_when (Evl.et_or (Evl.et_not (et_between (lo := 2) (hi := 4) (x := p) (Evl.ev_var rfl))) fun _ => Evl.et_not (et_between (lo := 1) (hi := 3) (x := v) (Evl.ev_var rfl))) (fun c H1 e1 => ?_) (fun c H1 e1 => ?_)
    · refine ret_one ?_
      unfold beginTo at kQ
      rw [if_pos c] at kQ
      exact (kQ.pure hS).mono e1
    · unfold beginTo at kQ
      rw [if_neg (by rw [c]; decide)] at kQ
      simp only [Bool.or_eq_false_iff, Bool.not_eq_false', Bool.and_eq_true, decide_eq_true_eq] at c
      obtain ⟨dx, np, nv, ao, so, lo, po, hp⟩ := (hS.mono e1).field
      refine ⟨_, rfl, _, rfl, _, rfl, X, ph, dx, np, nv, ao, so, lo, po, p, v, fun b hb => ⟨((hS.mono e1).1 b hb).1, fun z => ((hS.mono e1).1 b hb).2 (by rw [z]; exact hS.memS)⟩, rfl, hp, c.1.1, c.1.2, c.2.1, c.2.2, fun H2 S' a2 k2 k3 => ?_⟩
      refine ⟨by show 1 ≤ sizeLine; decide, fun q hq => ?_⟩
      have e3 := Evl.Ex.new (o := .lst [.int 0]) hq
      have kn : ∀ b, b ∈ S' → b ∈ S ∨ H b = none := fun b hb => by
        rcases k3 b hb with z | z
        · exact Or.inl (by rw [z]; exact hS.memS)
        · exact Or.inr (fresh_back e1 z)
      refine kQ q _ S' (a2.mono e3) ⟨fun b o hb nb => e3 _ _ (k2 b o (e1 _ _ hb) fun z => nb (by rw [z]; exact hS.memS)), kn⟩ ?_ upd_same
      cases c2 : H q with
      | none => rfl
      | some o =>
        by_cases cq : q = ph
        · obtain ⟨_, _, _, _, _, _, _, x⟩ := a2.field
          rw [cq, x] at hq
          cases hq
        · rw [k2 q o (e1 _ _ c2) cq] at hq
          cases hq
end
end CI
/-! Which calls may be handed in. -/
namespace CI
theorem form_none {p : Int} (h : p < 0 ∨ 25 < p) : PyKp381.form p = none := by
  unfold PyKp381.form
  repeat rw [if_neg (by omega)]
theorem form_nat {p : Int} (h : PyKp381.form p ≠ none) : ∃ k : Nat, k < 26 ∧ p = (k : Int) := by
  refine ⟨p.toNat, ?_, ?_⟩
  · by_cases c : p < 0
    · exact absurd (form_none (Or.inl c)) h
    · by_cases d : 25 < p
      · exact absurd (form_none (Or.inr d)) h
      · omega
  · by_cases c : p < 0
    · exact absurd (form_none (Or.inl c)) h
    · omega
def tailOk (f : List (Int × Int) × (Nat × Nat × Int × Int) × List (Int × Int × Nat × Nat) × (Nat × Nat × Nat × Int × Int × Nat × Nat)) : Bool := f.2.2.1.isEmpty && f.2.2.2.1 == 0 && f.2.2.2.2.2.1 == 0
theorem form_tail : ∀ k : Fin 26, ((PyKp381.form (k.val : Int)).map tailOk).getD false = true := by decide +kernel
/-- a call that may be handed in: its number, its numbers, no lists -/
theorem fits_form {c : List (List Int)} (h : PyKp381.fits c = true) : ∃ (k : Nat) (gs : List Int), k < 26 ∧ c = [(k : Int) :: gs] := by
  match c, h with
  | [], h => cases h
  | [] :: _, h => cases h
  | (p :: xs) :: rows, h =>
    have h' : (match PyKp381.form p with
      | none => false
      | some (a, (m1, m2, lo, hi), r, (k, n1, n2, llo, lhi, l1, l2)) =>
        let ys := xs.drop a.length
        let ms := (rows.drop k).take (rows.length - r.length)
        let fs := rows.take k ++ rows.drop (k + (rows.length - r.length))
        decide (a.length ≤ xs.length) && PyInside.each a xs && decide (m1 ≤ ys.length) && decide (ys.length ≤ m2) && ys.all (PyInside.within lo hi) && decide (r.length ≤ rows.length) && decide (n1 ≤ ms.length) && decide (ms.length ≤ n2) && ms.all (fun l => decide (l1 ≤ l.length) && decide (l.length ≤ l2) && l.all (PyInside.within llo lhi)) && PyInside.lists r fs) = true := h
    obtain ⟨k, hk, rfl⟩ := form_nat (p := p) (fun z => by rw [z] at h'; cases h')
    have ht := form_tail ⟨k, hk⟩
    refine ⟨k, xs, hk, ?_⟩
    cases e : PyKp381.form (k : Int) with
    | none =>
      rw [e] at h'
      cases h'
    | some f =>
      obtain ⟨a, ⟨m1, m2, lo, hi⟩, r, k0, n1, n2, llo, lhi, l1, l2⟩ := f
      have ht' : ((PyKp381.form (k : Int)).map tailOk).getD false = true := ht
      rw [e] at ht'
      have e2 : (r.isEmpty && k0 == 0 && n2 == 0) = true := ht'
      simp only [Bool.and_eq_true, List.isEmpty_iff, beq_iff_eq] at e2
      obtain ⟨⟨rfl, rfl⟩, rfl⟩ := e2
      rw [e] at h'
      simp only [Bool.and_eq_true, decide_eq_true_eq] at h'
      have h3 : ((rows.drop 0).take (rows.length - ([] : List (Int × Int × Nat × Nat)).length)).length ≤ 0 := h'.1.1.2
      simp at h3
      rw [h3]
end CI
/-! The list of calls: answers(calls), from the promise of answer_call. -/
namespace CI
open PySem PySem.Spec PyProof.Rows L2
open Evl (Ex fresh_back Ev EvT EvA EvL)
theorem put_one (num : Int) (gs : List Int) (cs : List (List (List Int))) : PyWide.put ([num :: gs] :: cs) = num :: (gs.length : Int) :: (gs ++ 0 :: PyWide.put cs) := by
  show PyWide.put1 [(num : Int) :: gs] ++ PyWide.put cs = _
  rw [PyWide.put1_append]
  rfl
theorem told_cons (a : List Int) (l : List (List Int)) : PyFlat.told (a :: l) = ((a.length : Int) :: a) ++ PyFlat.told l := rfl
theorem get_of_drop {α : Type} {l : List α} {i : Nat} {x : α} {r : List α} (h : l.drop i = x :: r) : l[i]? = some x ∧ l.drop (i + 1) = r ∧ i < l.length := by
  have h1 : l[i]? = some x := by
    rw [← List.head?_drop, h]
    rfl
  refine ⟨h1, ?_, (List.getElem?_eq_some_iff.mp h1).1⟩
  rw [← List.drop_drop, h]
  rfl
section
variable {P : Program} {w : World} {K : PySem.W.Frag} {mg : Str → Option Value} {base : Heap} {n : Nm}
/-- what a call is answered, and the state behind it -/
def sp_answer_call (n : Nm) : Sp := fun vs H Q _ => ∃ (X : List Addr) (ph : Addr) (S : List Addr) (st : Kp381.State) (num : Nat) (gs : List Int) (pg : Addr), vs = [.ref ph, .int (num : Int), .ref pg] ∧ H pg = some (.lst (gs.map V.int)) ∧ num < 26 ∧ PyKp381.fits [(num : Int) :: gs] = true ∧
  StAt n X st ph S H ∧ Told n X (Kp381Neutral.step st [(num : Int) :: gs]).1 (Kp381Neutral.step st [(num : Int) :: gs]).2 ph S H Q
def sp_answers (K : PySem.W.Frag) : Sp := fun vs H Q _ => ∃ (a : Addr) (ns : List Int), vs = [.ref a] ∧ SqL K H a (ns.map V.int) ∧ ns.length ≤ 780 ∧ PyKp381.answers_asked ns = true ∧ ∀ (H' : Hp) (p : Addr), H' p = some (.lst ((PyKp381.answers ns).map V.int)) → Q (.ref p) H'
theorem ok_answers {k : Nat} (hk : 1 ≤ k) (D : Ds n K mg) (G_answer_call : FnOk P w K mg base CX0 k n.f_answer_call n.fd_answer_call P_answer_call (sp_answer_call n)) : FnOk P w K mg base CX0 (k + 2) n.f_answers n.fd_answers P_answers (sp_answers K) := by
  have G_House := ok_House_init (P := P) (w := w) (base := base) D
  refine D.d_answers.F.ok sc_answers (fun vs H Q E h => ?_) (fun cdv A outer s H vs Q E hr h => ?_)
  · obtain ⟨a, ns, rfl, _⟩ := h
    rfl
  · obtain ⟨a, ns, rfl, hS, h780, hask, kQ⟩ := h
    have hr1 : Room k _ := hr.mono (by omega)
    have hr2 : Room 2 _ := hr.mono (by omega)
    refine ⟨_, (pss_cons (ps_set (i := 1) sc_answers.nd rfl (Or.inl rfl) (pe_make0 D.c_House.M G_House hr2 rfl D.c_House.g D.c_House.b .nil pass0 ))
      (pss_cons (ps_set (i := 2) sc_answers.nd rfl (Or.inl rfl) (pe_lst pa_nil))
      (pss_cons (ps_set (i := 3) sc_answers.nd rfl (Or.inl rfl) pe_int)
      (pss_cons (ps_while PassesOwn.never (pt_cmpR op_lt (pv 3) (pe_callB call_len_seq (by rfl) D.n_len PySem.boot_len (pa_cons (pv 0) pa_nil)) (nomark _))
        (pss_cons (ps_set (i := 4) sc_answers.nd rfl (Or.inl rfl) (pe_op op_add (pe_op op_add (pv 3) pe_int) (pe_ix ix_list (pv 0) (pe_op op_add (pv 3) pe_int) (fun _ _ => rfl))))
        (pss_cons (ps_set (i := 5) sc_answers.nd rfl (Or.inl rfl) (pe_call G_answer_call hr1 rfl D.d_answer_call.g D.d_answer_call.F.kp D.d_answer_call.b .nil pass0 (pa_cons (pv 1) (pa_cons (pe_ix ix_list (pv 0) (pv 3) (fun _ _ => rfl)) (pa_cons (pe_slice sl_list (pv 0) (po_some (pe_op op_add (pv 3) pe_int)) (po_some (pv 4))) pa_nil)))))
        (pss_cons (ps_expr (pe_bm PySem.F.plainAttrs_list PySem.F.slot_list_append PySem.F.type_list_append mt_append (pv 2) (pa_cons (pe_callB call_len_seq (by rfl) D.n_len PySem.boot_len (pa_cons (pv 5) pa_nil)) pa_nil)))
        (pss_cons (ps_expr (pe_bm PySem.F.plainAttrs_list PySem.F.slot_list_extend PySem.F.type_list_extend mt_extend (pv 2) (pa_cons (pv 5) pa_nil)))
        (pss_one (ps_set (i := 3) sc_answers.nd rfl (Or.inl rfl) (pe_op op_add (pv 4) pe_int))))))))
      (pss_one (ps_ret (pv 2))))))), ?_⟩
    -- the calls
    obtain ⟨cs, hcs, hall, hshort⟩ : ∃ cs, PyKp381.calls ns = some cs ∧ (∀ c ∈ cs, PyKp381.fits c = true) ∧ (PyKp381.answers ns).length ≤ 10000000 := by
      unfold PyKp381.answers_asked at hask
      cases e : PyKp381.calls ns with
      | none => rw [e] at hask; cases hask
      | some cs =>
        rw [e] at hask
        simp only [Bool.and_eq_true, List.all_eq_true, PyFlat.short, decide_eq_true_eq] at hask
        exact ⟨cs, rfl, hask.1.1.1.2, hask.2⟩
    have hans : PyKp381.answers ns = PyFlat.told (PyFlat.played Kp381Neutral.step none cs) := by
      unfold PyKp381.answers
      rw [hcs]
      rfl
    obtain ⟨hput, _⟩ := PyWide.put_calls _ _ _ hcs
    -- house = House()
    intro x dx nx nd ne
    refine ⟨x, dx, rfl, upd_same, fun H1 s1 k1 => ⟨rfl, ?_⟩⟩
    have e1 : Ex H H1 := Same.made nx nd k1
    refine ⟨by show 0 ≤ sizeLine; decide, fun l hl => ?_⟩
    have e2 : Ex H1 (upd H1 l (.lst [])) := Evl.Ex.new hl
    have s2 : StAt n [l] none x [x] (upd H1 l (.lst [])) := by
      obtain ⟨_, h0, dx', ao, so, lo, po, h1⟩ := s1
      refine ⟨fun b hb => ?_, h0, dx', ao, so, lo, po, e2 _ _ h1⟩
      have : b = l := by simpa using hb
      subst this
      refine ⟨⟨_, upd_same⟩, fun m => ?_⟩
      have : b = x := by simpa using m
      rw [this, h1] at hl
      cases hl
    refine ⟨fun m σ H' => ∃ (i : Nat) (st : Kp381.State) (S : List Addr) (cs' : List (List (List Int))) (out : List Int) (o4 o5 : Option V), m = cs'.length ∧ σ = [some (.ref a), some (.ref x), some (.ref l), some (.int (i : Int)), o4, o5] ∧ Ex H H' ∧ (∀ b ∈ S, H b = none) ∧
      StAt n [l] st x S H' ∧ H' l = some (.lst (out.map V.int)) ∧ ns.drop i = PyWide.put cs' ∧ i ≤ ns.length ∧ (∀ c ∈ cs', PyKp381.fits c = true) ∧ PyKp381.answers ns = out ++ PyFlat.told (PyFlat.played Kp381Neutral.step st cs'),
      ⟨cs.length, 0, none, [x], cs, [], none, none, rfl, rfl, e1.trans e2, fun b hb => ?_, s2, upd_same, hput, Nat.zero_le _, hall, hans⟩, ?_⟩
    · have : b = x := by simpa using hb
      rw [this]
      exact nx
    · rintro m σ H' ⟨i, st, S, cs', out, o4, o5, rfl, rfl, e3, fS, s3, hl3, hd, hi, ha, htot⟩
      have hlH : H l = none := fresh_back e1 hl
      have hin : SqL K H' a (ns.map V.int) := Evl.ex_l e3 hS
      refine ⟨_, rfl, _, rfl, a, _, rfl, Or.inl hin, _, _, rfl, rfl, _, rfl, ?_⟩
      cases cs' with
      | nil =>
        have hlen : ns.length ≤ i := by
          have : (ns.drop i).length = 0 := by rw [hd]; rfl
          rw [List.length_drop] at this
          omega
        refine if_f (decide_eq_false (by rw [List.length_map]; omega)) ?_
        refine ⟨_, rfl, kQ _ _ ?_⟩
        rw [hl3, htot]
        show _ = some (HO.lst ((out ++ []).map V.int))
        rw [List.append_nil]
      | cons c cs'' =>
        obtain ⟨num, gs, hnum, rfl⟩ := fits_form (ha c List.mem_cons_self)
        rw [put_one] at hd
        obtain ⟨g0, d1, l0⟩ := get_of_drop hd
        obtain ⟨g1, d2, l1⟩ := get_of_drop d1
        have hlen : gs.length + 1 ≤ ns.length - (i + 1 + 1) := by
          have h1 : (ns.drop (i + 1 + 1)).length = (gs ++ 0 :: PyWide.put cs'').length := by rw [d2]
          rw [List.length_drop, List.length_append, List.length_cons] at h1
          omega
        have d3 : ns.drop (i + 2 + gs.length + 1) = PyWide.put cs'' := by
          have h1 : ns.drop (i + 1 + 1 + gs.length) = 0 :: PyWide.put cs'' := by
            rw [← List.drop_drop, d2, List.drop_left]
          exact (get_of_drop (show ns.drop (i + 2 + gs.length) = 0 :: PyWide.put cs'' from h1)).2.1
        refine if_t (decide_eq_true (by rw [List.length_map]; omega)) ?_
        have gm : ∀ (j : Nat) (z : Int), ns[j]? = some z → (ns.map V.int)[j]? = some (V.int z) := fun j z h => by rw [List.getElem?_map, h]; rfl
        refine ⟨fun σ2 H2 => ∃ (st2 : Kp381.State) (S2 : List Addr) (o4 o5 : Option V), σ2 = [some (.ref a), some (.ref x), some (.ref l), some (.int ((i + 2 + gs.length + 1 : Nat) : Int)), o4, o5] ∧ Ex H H2 ∧ (∀ b ∈ S2, H b = none) ∧ StAt n [l] st2 x S2 H2 ∧
          H2 l = some (.lst ((out ++ ((Kp381Neutral.step st [(num : Int) :: gs]).2.length : Int) :: (Kp381Neutral.step st [(num : Int) :: gs]).2).map V.int)) ∧ st2 = (Kp381Neutral.step st [(num : Int) :: gs]).1, ?_, ?_⟩
        · rintro σ2 H2 ⟨st2, S2, o4, o5, rfl, x1, x2, x3, x4, rfl⟩
          refine ⟨cs''.length, by show cs''.length < cs''.length + 1; omega, _, _, S2, cs'', _, o4, o5, rfl, rfl, x1, x2, x3, x4, d3, by omega, fun c hc => ha c (List.mem_cons_of_mem _ hc), ?_⟩
          rw [htot, List.append_assoc]
          rfl
        · refine ⟨_, rfl, _, _, rfl, rfl, _, rfl, _, rfl, _, _, rfl, rfl, a, _, _, _, rfl, rfl, hin, at_of (show (i : Int) + 1 = ((i + 1 : Nat) : Int) by omega) (gm _ _ g1), _, _, rfl, rfl, ?_⟩
          refine ⟨_, rfl, _, rfl, _, rfl, a, _, _, _, rfl, rfl, hin, atI_nat (gm _ _ g0), _, rfl, _, rfl, _, _, rfl, rfl, _, rfl, _, rfl, _, rfl, a, _, rfl, hin, fun pg hpg => ?_⟩
          have ecut : cutV (ns.map V.int) (some ((i : Int) + 2)) (some ((i : Int) + 2 + (gs.length : Int))) = gs.map V.int := by
            have c1 : (i : Int) + 2 = ((i + 2 : Nat) : Int) := by omega
            have c2 : ((i + 2 : Nat) : Int) + (gs.length : Int) = ((i + 2 + gs.length : Nat) : Int) := by omega
            rw [c1, c2]
            unfold cutV
            rw [HT.sIx_nat, HT.sIx_nat, List.length_map, Nat.min_eq_left (by omega), Nat.min_eq_left (by omega), ← List.map_drop, ← List.map_take, show ns.drop (i + 2) = gs ++ 0 :: PyWide.put cs'' from d2, show i + 2 + gs.length - (i + 2) = gs.length by omega, List.take_left]
          show sp_answer_call n [V.ref x, V.int (num : Int), V.ref pg] (upd H' pg (.lst (cutV (ns.map V.int) (some ((i : Int) + 2)) (some ((i : Int) + 2 + (gs.length : Int)))))) _ E0
          rw [ecut]
          have e4 : Ex H' (upd H' pg (.lst (gs.map V.int))) := Evl.Ex.new hpg
          refine ⟨[l], x, S, st, num, gs, pg, rfl, upd_same, hnum, ha _ List.mem_cons_self, s3.mono e4, fun q H2 S2 s4 kp hq h2 => ?_⟩
          have nlS : l ∉ S := (s3.1 l List.mem_cons_self).2
          have hl2 : H2 l = some (.lst (out.map V.int)) := kp.1 _ _ (e4 _ _ hl3) nlS
          have nq : q ≠ l := fun z => by
            rw [z, e4 _ _ hl3] at hq
            cases hq
          have e5 : Ex H H2 := fun b o hb => kp.1 b o (e4 _ _ (e3 _ _ hb)) fun m => by
            rw [fS b m] at hb
            cases hb
          have fS2 : ∀ b ∈ S2, H b = none := fun b hb => by
            rcases kp.2 b hb with z | z
            · exact fS b z
            · exact fresh_back (e3.trans e4) z
          have hlen2 : (out ++ ((Kp381Neutral.step st [(num : Int) :: gs]).2.length : Int) :: (Kp381Neutral.step st [(num : Int) :: gs]).2).length ≤ 10000000 := by
            refine Nat.le_trans ?_ hshort
            rw [htot]
            show _ ≤ (out ++ (((Kp381Neutral.step st [(num : Int) :: gs]).2.length : Int) :: (Kp381Neutral.step st [(num : Int) :: gs]).2 ++ PyFlat.told (PyFlat.played Kp381Neutral.step (Kp381Neutral.step st [(num : Int) :: gs]).1 cs''))).length
            simp only [List.length_append, List.length_cons]
            omega
          have e24 : (10000000 : Nat) < sizeLine := by decide
          -- the list of answers changes: the house does not
          have keep : ∀ (G : Hp) (os : List V), StAt n [l] (Kp381Neutral.step st [(num : Int) :: gs]).1 x S2 G → StAt n [l] (Kp381Neutral.step st [(num : Int) :: gs]).1 x S2 (upd G l (.lst os)) := by
            intro G os sg
            have nl2 := (sg.1 l List.mem_cons_self).2
            have same : ∀ T : List Addr, er (T ++ [l]) (upd G l (.lst os)) = er (T ++ [l]) G := fun T => by
              funext b
              unfold er
              by_cases c : b ∈ T ++ [l]
              · rw [if_pos c, if_pos c]
              · rw [if_neg c, if_neg c, upd_ne (fun z => c (by rw [z]; simp))]
            have offs : Off [l] S2 (upd G l (.lst os)) := fun b hb => by
              have : b = l := by simpa using hb
              subst this
              exact ⟨⟨_, upd_same⟩, nl2⟩
            refine ⟨offs, ?_⟩
            generalize (Kp381Neutral.step st [(num : Int) :: gs]).1 = st2 at sg
            cases st2 with
            | none =>
              obtain ⟨_, y1, y2, y3, y4, y5, y6, y7⟩ := sg
              subst y1
              exact ⟨rfl, y2, y3, y4, y5, y6, by rw [upd_ne (fun z => nl2 (by rw [z]; simp))]; exact y7⟩
            | some h =>
              obtain ⟨_, y1, y2, y3, y4, y5, y6, y7, y8, y9, ya⟩ := sg
              subst y9
              have u : ∀ b, b ∈ [x, y2, y4, y5] → (upd G l (.lst os)) b = G b := fun b hb => upd_ne (fun z => nl2 (by rw [← z]; exact hb))
              refine ⟨y1, y2, y3, y4, y5, y6, y7, y8, rfl, ?_, ?_, ?_, ?_, ya.ne, ya.n1, ya.n2, ?_, ?_, ?_, ?_, ya.ww, ya.os, ya.ll, ya.wp, ya.lp, ya.le⟩
              · rw [u _ (by simp)]; exact ya.hp
              · rw [u _ (by simp)]; exact ya.ha
              · rw [u _ (by simp)]; exact ya.hl
              · rw [u _ (by simp)]; exact ya.hq
              · rw [same]; exact ya.ea
              · rw [same]; exact ya.es
              · rw [same]; exact ya.el
              · rw [same]; exact ya.eq
          refine ⟨_, rfl, .inl ⟨rfl, _, sqL hl2⟩, _, rfl, q, _, rfl, Or.inl (sqL h2), l, _, _, rfl, rfl, hl2, ?_, ?_⟩
          · simp only [List.length_append, List.length_cons] at hlen2
            rw [List.length_map]
            omega
          · refine ⟨_, rfl, .inl ⟨rfl, _, sqL upd_same⟩, _, rfl, l, q, _, _, rfl, rfl, upd_same, by rw [upd_ne nq]; exact h2, ?_, ?_⟩
            · simp only [List.length_append, List.length_cons] at hlen2
              simp only [List.length_append, List.length_map, List.length_cons, List.length_nil]
              omega
            · refine ⟨_, rfl, _, _, rfl, rfl, _, S2, some (.int ((i : Int) + 2 + (gs.length : Int))), some (.ref q), ?_, ?_, fS2, keep _ _ (keep _ _ s4), ?_, rfl⟩
              · have c3 : (i : Int) + 2 + (gs.length : Int) + 1 = ((i + 2 + gs.length + 1 : Nat) : Int) := by omega
                rw [← c3]
                rfl
              · exact Evl.Ex.mut (Evl.Ex.mut e5 hlH) hlH
              · rw [upd_same]
                simp
end
end CI
/-! From what the top has left to the defs as they are wanted. -/
namespace CI
open PySem PySem.Spec PyProof.Rows L2
theorem b_Act___init__ (kV doc pm : Value) (an : Option Addr) (cdv ct : Value) (us : List Value) (hl : us.length = P_Act___init__.length) : bindArgs (PySem.W.fnOf "__init__" "Act.__init__" (defArgs s_Act___init__) (defBody s_Act___init__) (defScope s_Act___init__) .none kV doc pm an cdv ct) ⟨us, []⟩ = pure (P_Act___init__.zip us) := match us, hl with
  | [_, _, _, _, _], _ => rfl
theorem b_Entry___init__ (kV doc pm : Value) (an : Option Addr) (cdv ct : Value) (us : List Value) (hl : us.length = P_Entry___init__.length) : bindArgs (PySem.W.fnOf "__init__" "Entry.__init__" (defArgs s_Entry___init__) (defBody s_Entry___init__) (defScope s_Entry___init__) .none kV doc pm an cdv ct) ⟨us, []⟩ = pure (P_Entry___init__.zip us) := match us, hl with
  | [_, _, _, _, _, _], _ => rfl
theorem b_House___init__ (kV doc pm : Value) (an : Option Addr) (cdv ct : Value) (us : List Value) (hl : us.length = P_House___init__.length) : bindArgs (PySem.W.fnOf "__init__" "House.__init__" (defArgs s_House___init__) (defBody s_House___init__) (defScope s_House___init__) .none kV doc pm an cdv ct) ⟨us, []⟩ = pure (P_House___init__.zip us) := match us, hl with
  | [_], _ => rfl
theorem b_furnish (kV doc pm : Value) (an : Option Addr) (cdv ct : Value) (us : List Value) (hl : us.length = P_furnish.length) : bindArgs (PySem.W.fnOf "furnish" "furnish" (defArgs s_furnish) (defBody s_furnish) (defScope s_furnish) .none kV doc pm an cdv ct) ⟨us, []⟩ = pure (P_furnish.zip us) := match us, hl with
  | [_, _, _], _ => rfl
theorem b_is_begun (kV doc pm : Value) (an : Option Addr) (cdv ct : Value) (us : List Value) (hl : us.length = P_is_begun.length) : bindArgs (PySem.W.fnOf "is_begun" "is_begun" (defArgs s_is_begun) (defBody s_is_begun) (defScope s_is_begun) .none kV doc pm an cdv ct) ⟨us, []⟩ = pure (P_is_begun.zip us) := match us, hl with
  | [_], _ => rfl
theorem b_has_place (kV doc pm : Value) (an : Option Addr) (cdv ct : Value) (us : List Value) (hl : us.length = P_has_place.length) : bindArgs (PySem.W.fnOf "has_place" "has_place" (defArgs s_has_place) (defBody s_has_place) (defScope s_has_place) .none kV doc pm an cdv ct) ⟨us, []⟩ = pure (P_has_place.zip us) := match us, hl with
  | [_, _], _ => rfl
theorem b_has_self (kV doc pm : Value) (an : Option Addr) (cdv ct : Value) (us : List Value) (hl : us.length = P_has_self.length) : bindArgs (PySem.W.fnOf "has_self" "has_self" (defArgs s_has_self) (defBody s_has_self) (defScope s_has_self) .none kV doc pm an cdv ct) ⟨us, []⟩ = pure (P_has_self.zip us) := match us, hl with
  | [_, _], _ => rfl
theorem b_has_act (kV doc pm : Value) (an : Option Addr) (cdv ct : Value) (us : List Value) (hl : us.length = P_has_act.length) : bindArgs (PySem.W.fnOf "has_act" "has_act" (defArgs s_has_act) (defBody s_has_act) (defScope s_has_act) .none kV doc pm an cdv ct) ⟨us, []⟩ = pure (P_has_act.zip us) := match us, hl with
  | [_, _, _], _ => rfl
theorem b_may_go (kV doc pm : Value) (an : Option Addr) (cdv ct : Value) (us : List Value) (hl : us.length = P_may_go.length) : bindArgs (PySem.W.fnOf "may_go" "may_go" (defArgs s_may_go) (defBody s_may_go) (defScope s_may_go) .none kV doc pm an cdv ct) ⟨us, []⟩ = pure (P_may_go.zip us) := match us, hl with
  | [_], _ => rfl
theorem b_stand_behind (kV doc pm : Value) (an : Option Addr) (cdv ct : Value) (us : List Value) (hl : us.length = P_stand_behind.length) : bindArgs (PySem.W.fnOf "stand_behind" "stand_behind" (defArgs s_stand_behind) (defBody s_stand_behind) (defScope s_stand_behind) .none kV doc pm an cdv ct) ⟨us, []⟩ = pure (P_stand_behind.zip us) := match us, hl with
  | [_, _, _], _ => rfl
theorem b_common_divisor (kV doc pm : Value) (an : Option Addr) (cdv ct : Value) (us : List Value) (hl : us.length = P_common_divisor.length) : bindArgs (PySem.W.fnOf "common_divisor" "common_divisor" (defArgs s_common_divisor) (defBody s_common_divisor) (defScope s_common_divisor) .none kV doc pm an cdv ct) ⟨us, []⟩ = pure (P_common_divisor.zip us) := match us, hl with
  | [_, _], _ => rfl
theorem b_lowest (kV doc pm : Value) (an : Option Addr) (cdv ct : Value) (us : List Value) (hl : us.length = P_lowest.length) : bindArgs (PySem.W.fnOf "lowest" "lowest" (defArgs s_lowest) (defBody s_lowest) (defScope s_lowest) .none kV doc pm an cdv ct) ⟨us, []⟩ = pure (P_lowest.zip us) := match us, hl with
  | [_, _], _ => rfl
theorem b_is_less (kV doc pm : Value) (an : Option Addr) (cdv ct : Value) (us : List Value) (hl : us.length = P_is_less.length) : bindArgs (PySem.W.fnOf "is_less" "is_less" (defArgs s_is_less) (defBody s_is_less) (defScope s_is_less) .none kV doc pm an cdv ct) ⟨us, []⟩ = pure (P_is_less.zip us) := match us, hl with
  | [_, _], _ => rfl
theorem b_difference (kV doc pm : Value) (an : Option Addr) (cdv ct : Value) (us : List Value) (hl : us.length = P_difference.length) : bindArgs (PySem.W.fnOf "difference" "difference" (defArgs s_difference) (defBody s_difference) (defScope s_difference) .none kV doc pm an cdv ct) ⟨us, []⟩ = pure (P_difference.zip us) := match us, hl with
  | [_, _], _ => rfl
theorem b_all_stands (kV doc pm : Value) (an : Option Addr) (cdv ct : Value) (us : List Value) (hl : us.length = P_all_stands.length) : bindArgs (PySem.W.fnOf "all_stands" "all_stands" (defArgs s_all_stands) (defBody s_all_stands) (defScope s_all_stands) .none kV doc pm an cdv ct) ⟨us, []⟩ = pure (P_all_stands.zip us) := match us, hl with
  | [_], _ => rfl
theorem b_mean_behind (kV doc pm : Value) (an : Option Addr) (cdv ct : Value) (us : List Value) (hl : us.length = P_mean_behind.length) : bindArgs (PySem.W.fnOf "mean_behind" "mean_behind" (defArgs s_mean_behind) (defBody s_mean_behind) (defScope s_mean_behind) .none kV doc pm an cdv ct) ⟨us, []⟩ = pure (P_mean_behind.zip us) := match us, hl with
  | [_, _, _, _], _ => rfl
theorem b_brings (kV doc pm : Value) (an : Option Addr) (cdv ct : Value) (us : List Value) (hl : us.length = P_brings.length) : bindArgs (PySem.W.fnOf "brings" "brings" (defArgs s_brings) (defBody s_brings) (defScope s_brings) .none kV doc pm an cdv ct) ⟨us, []⟩ = pure (P_brings.zip us) := match us, hl with
  | [_, _, _, _], _ => rfl
theorem b_best_act (kV doc pm : Value) (an : Option Addr) (cdv ct : Value) (us : List Value) (hl : us.length = P_best_act.length) : bindArgs (PySem.W.fnOf "best_act" "best_act" (defArgs s_best_act) (defBody s_best_act) (defScope s_best_act) .none kV doc pm an cdv ct) ⟨us, []⟩ = pure (P_best_act.zip us) := match us, hl with
  | [_, _, _], _ => rfl
theorem b_act_done (kV doc pm : Value) (an : Option Addr) (cdv ct : Value) (us : List Value) (hl : us.length = P_act_done.length) : bindArgs (PySem.W.fnOf "act_done" "act_done" (defArgs s_act_done) (defBody s_act_done) (defScope s_act_done) .none kV doc pm an cdv ct) ⟨us, []⟩ = pure (P_act_done.zip us) := match us, hl with
  | [_, _, _], _ => rfl
theorem b_nothing_brought (kV doc pm : Value) (an : Option Addr) (cdv ct : Value) (us : List Value) (hl : us.length = P_nothing_brought.length) : bindArgs (PySem.W.fnOf "nothing_brought" "nothing_brought" (defArgs s_nothing_brought) (defBody s_nothing_brought) (defScope s_nothing_brought) .none kV doc pm an cdv ct) ⟨us, []⟩ = pure (P_nothing_brought.zip us) := match us, hl with
  | [_], _ => rfl
theorem b_worths_there (kV doc pm : Value) (an : Option Addr) (cdv ct : Value) (us : List Value) (hl : us.length = P_worths_there.length) : bindArgs (PySem.W.fnOf "worths_there" "worths_there" (defArgs s_worths_there) (defBody s_worths_there) (defScope s_worths_there) .none kV doc pm an cdv ct) ⟨us, []⟩ = pure (P_worths_there.zip us) := match us, hl with
  | [_, _, _], _ => rfl
theorem b_one_step_more (kV doc pm : Value) (an : Option Addr) (cdv ct : Value) (us : List Value) (hl : us.length = P_one_step_more.length) : bindArgs (PySem.W.fnOf "one_step_more" "one_step_more" (defArgs s_one_step_more) (defBody s_one_step_more) (defScope s_one_step_more) .none kV doc pm an cdv ct) ⟨us, []⟩ = pure (P_one_step_more.zip us) := match us, hl with
  | [_, _], _ => rfl
theorem b_worth_tables (kV doc pm : Value) (an : Option Addr) (cdv ct : Value) (us : List Value) (hl : us.length = P_worth_tables.length) : bindArgs (PySem.W.fnOf "worth_tables" "worth_tables" (defArgs s_worth_tables) (defBody s_worth_tables) (defScope s_worth_tables) .none kV doc pm an cdv ct) ⟨us, []⟩ = pure (P_worth_tables.zip us) := match us, hl with
  | [_, _], _ => rfl
theorem b_worth_table (kV doc pm : Value) (an : Option Addr) (cdv ct : Value) (us : List Value) (hl : us.length = P_worth_table.length) : bindArgs (PySem.W.fnOf "worth_table" "worth_table" (defArgs s_worth_table) (defBody s_worth_table) (defScope s_worth_table) .none kV doc pm an cdv ct) ⟨us, []⟩ = pure (P_worth_table.zip us) := match us, hl with
  | [_, _], _ => rfl
theorem b_likely_one_step_more (kV doc pm : Value) (an : Option Addr) (cdv ct : Value) (us : List Value) (hl : us.length = P_likely_one_step_more.length) : bindArgs (PySem.W.fnOf "likely_one_step_more" "likely_one_step_more" (defArgs s_likely_one_step_more) (defBody s_likely_one_step_more) (defScope s_likely_one_step_more) .none kV doc pm an cdv ct) ⟨us, []⟩ = pure (P_likely_one_step_more.zip us) := match us, hl with
  | [_, _, _], _ => rfl
theorem b_likely_table (kV doc pm : Value) (an : Option Addr) (cdv ct : Value) (us : List Value) (hl : us.length = P_likely_table.length) : bindArgs (PySem.W.fnOf "likely_table" "likely_table" (defArgs s_likely_table) (defBody s_likely_table) (defScope s_likely_table) .none kV doc pm an cdv ct) ⟨us, []⟩ = pure (P_likely_table.zip us) := match us, hl with
  | [_, _], _ => rfl
theorem b_turns_there (kV doc pm : Value) (an : Option Addr) (cdv ct : Value) (us : List Value) (hl : us.length = P_turns_there.length) : bindArgs (PySem.W.fnOf "turns_there" "turns_there" (defArgs s_turns_there) (defBody s_turns_there) (defScope s_turns_there) .none kV doc pm an cdv ct) ⟨us, []⟩ = pure (P_turns_there.zip us) := match us, hl with
  | [_, _, _, _], _ => rfl
theorem b_never_turns (kV doc pm : Value) (an : Option Addr) (cdv ct : Value) (us : List Value) (hl : us.length = P_never_turns.length) : bindArgs (PySem.W.fnOf "never_turns" "never_turns" (defArgs s_never_turns) (defBody s_never_turns) (defScope s_never_turns) .none kV doc pm an cdv ct) ⟨us, []⟩ = pure (P_never_turns.zip us) := match us, hl with
  | [_, _, _, _], _ => rfl
theorem b_stands_behind (kV doc pm : Value) (an : Option Addr) (cdv ct : Value) (us : List Value) (hl : us.length = P_stands_behind.length) : bindArgs (PySem.W.fnOf "stands_behind" "stands_behind" (defArgs s_stands_behind) (defBody s_stands_behind) (defScope s_stands_behind) .none kV doc pm an cdv ct) ⟨us, []⟩ = pure (P_stands_behind.zip us) := match us, hl with
  | [_, _, _], _ => rfl
theorem b_surely_stays (kV doc pm : Value) (an : Option Addr) (cdv ct : Value) (us : List Value) (hl : us.length = P_surely_stays.length) : bindArgs (PySem.W.fnOf "surely_stays" "surely_stays" (defArgs s_surely_stays) (defBody s_surely_stays) (defScope s_surely_stays) .none kV doc pm an cdv ct) ⟨us, []⟩ = pure (P_surely_stays.zip us) := match us, hl with
  | [_, _, _, _, _], _ => rfl
theorem b_is_kept (kV doc pm : Value) (an : Option Addr) (cdv ct : Value) (us : List Value) (hl : us.length = P_is_kept.length) : bindArgs (PySem.W.fnOf "is_kept" "is_kept" (defArgs s_is_kept) (defBody s_is_kept) (defScope s_is_kept) .none kV doc pm an cdv ct) ⟨us, []⟩ = pure (P_is_kept.zip us) := match us, hl with
  | [_, _, _], _ => rfl
theorem b_would_be_kept (kV doc pm : Value) (an : Option Addr) (cdv ct : Value) (us : List Value) (hl : us.length = P_would_be_kept.length) : bindArgs (PySem.W.fnOf "would_be_kept" "would_be_kept" (defArgs s_would_be_kept) (defBody s_would_be_kept) (defScope s_would_be_kept) .none kV doc pm an cdv ct) ⟨us, []⟩ = pure (P_would_be_kept.zip us) := match us, hl with
  | [_, _], _ => rfl
theorem b_all_are_kept (kV doc pm : Value) (an : Option Addr) (cdv ct : Value) (us : List Value) (hl : us.length = P_all_are_kept.length) : bindArgs (PySem.W.fnOf "all_are_kept" "all_are_kept" (defArgs s_all_are_kept) (defBody s_all_are_kept) (defScope s_all_are_kept) .none kV doc pm an cdv ct) ⟨us, []⟩ = pure (P_all_are_kept.zip us) := match us, hl with
  | [_], _ => rfl
theorem b_is_twin (kV doc pm : Value) (an : Option Addr) (cdv ct : Value) (us : List Value) (hl : us.length = P_is_twin.length) : bindArgs (PySem.W.fnOf "is_twin" "is_twin" (defArgs s_is_twin) (defBody s_is_twin) (defScope s_is_twin) .none kV doc pm an cdv ct) ⟨us, []⟩ = pure (P_is_twin.zip us) := match us, hl with
  | [_, _], _ => rfl
theorem b_is_lonely (kV doc pm : Value) (an : Option Addr) (cdv ct : Value) (us : List Value) (hl : us.length = P_is_lonely.length) : bindArgs (PySem.W.fnOf "is_lonely" "is_lonely" (defArgs s_is_lonely) (defBody s_is_lonely) (defScope s_is_lonely) .none kV doc pm an cdv ct) ⟨us, []⟩ = pure (P_is_lonely.zip us) := match us, hl with
  | [_, _], _ => rfl
theorem b_twin_of (kV doc pm : Value) (an : Option Addr) (cdv ct : Value) (us : List Value) (hl : us.length = P_twin_of.length) : bindArgs (PySem.W.fnOf "twin_of" "twin_of" (defArgs s_twin_of) (defBody s_twin_of) (defScope s_twin_of) .none kV doc pm an cdv ct) ⟨us, []⟩ = pure (P_twin_of.zip us) := match us, hl with
  | [_], _ => rfl
theorem b_lonely_acts (kV doc pm : Value) (an : Option Addr) (cdv ct : Value) (us : List Value) (hl : us.length = P_lonely_acts.length) : bindArgs (PySem.W.fnOf "lonely_acts" "lonely_acts" (defArgs s_lonely_acts) (defBody s_lonely_acts) (defScope s_lonely_acts) .none kV doc pm an cdv ct) ⟨us, []⟩ = pure (P_lonely_acts.zip us) := match us, hl with
  | [_], _ => rfl
theorem b_answer_change (kV doc pm : Value) (an : Option Addr) (cdv ct : Value) (us : List Value) (hl : us.length = P_answer_change.length) : bindArgs (PySem.W.fnOf "answer_change" "answer_change" (defArgs s_answer_change) (defBody s_answer_change) (defScope s_answer_change) .none kV doc pm an cdv ct) ⟨us, []⟩ = pure (P_answer_change.zip us) := match us, hl with
  | [_, _, _], _ => rfl
theorem b_begin (kV doc pm : Value) (an : Option Addr) (cdv ct : Value) (us : List Value) (hl : us.length = P_begin.length) : bindArgs (PySem.W.fnOf "begin" "begin" (defArgs s_begin) (defBody s_begin) (defScope s_begin) .none kV doc pm an cdv ct) ⟨us, []⟩ = pure (P_begin.zip us) := match us, hl with
  | [_, _, _], _ => rfl
theorem b_all_between (kV doc pm : Value) (an : Option Addr) (cdv ct : Value) (us : List Value) (hl : us.length = P_all_between.length) : bindArgs (PySem.W.fnOf "all_between" "all_between" (defArgs s_all_between) (defBody s_all_between) (defScope s_all_between) .none kV doc pm an cdv ct) ⟨us, []⟩ = pure (P_all_between.zip us) := match us, hl with
  | [_, _, _], _ => rfl
theorem b_is_act_row (kV doc pm : Value) (an : Option Addr) (cdv ct : Value) (us : List Value) (hl : us.length = P_is_act_row.length) : bindArgs (PySem.W.fnOf "is_act_row" "is_act_row" (defArgs s_is_act_row) (defBody s_is_act_row) (defScope s_is_act_row) .none kV doc pm an cdv ct) ⟨us, []⟩ = pure (P_is_act_row.zip us) := match us, hl with
  | [_, _], _ => rfl
theorem b_settle (kV doc pm : Value) (an : Option Addr) (cdv ct : Value) (us : List Value) (hl : us.length = P_settle.length) : bindArgs (PySem.W.fnOf "settle" "settle" (defArgs s_settle) (defBody s_settle) (defScope s_settle) .none kV doc pm an cdv ct) ⟨us, []⟩ = pure (P_settle.zip us) := match us, hl with
  | [_, _, _, _], _ => rfl
theorem b_put_act (kV doc pm : Value) (an : Option Addr) (cdv ct : Value) (us : List Value) (hl : us.length = P_put_act.length) : bindArgs (PySem.W.fnOf "put_act" "put_act" (defArgs s_put_act) (defBody s_put_act) (defScope s_put_act) .none kV doc pm an cdv ct) ⟨us, []⟩ = pure (P_put_act.zip us) := match us, hl with
  | [_, _, _], _ => rfl
theorem b_take_act (kV doc pm : Value) (an : Option Addr) (cdv ct : Value) (us : List Value) (hl : us.length = P_take_act.length) : bindArgs (PySem.W.fnOf "take_act" "take_act" (defArgs s_take_act) (defBody s_take_act) (defScope s_take_act) .none kV doc pm an cdv ct) ⟨us, []⟩ = pure (P_take_act.zip us) := match us, hl with
  | [_, _, _], _ => rfl
theorem b_set_turn (kV doc pm : Value) (an : Option Addr) (cdv ct : Value) (us : List Value) (hl : us.length = P_set_turn.length) : bindArgs (PySem.W.fnOf "set_turn" "set_turn" (defArgs s_set_turn) (defBody s_set_turn) (defScope s_set_turn) .none kV doc pm an cdv ct) ⟨us, []⟩ = pure (P_set_turn.zip us) := match us, hl with
  | [_, _, _, _], _ => rfl
theorem b_set_lock (kV doc pm : Value) (an : Option Addr) (cdv ct : Value) (us : List Value) (hl : us.length = P_set_lock.length) : bindArgs (PySem.W.fnOf "set_lock" "set_lock" (defArgs s_set_lock) (defBody s_set_lock) (defScope s_set_lock) .none kV doc pm an cdv ct) ⟨us, []⟩ = pure (P_set_lock.zip us) := match us, hl with
  | [_, _, _, _], _ => rfl
theorem b_add_twins (kV doc pm : Value) (an : Option Addr) (cdv ct : Value) (us : List Value) (hl : us.length = P_add_twins.length) : bindArgs (PySem.W.fnOf "add_twins" "add_twins" (defArgs s_add_twins) (defBody s_add_twins) (defScope s_add_twins) .none kV doc pm an cdv ct) ⟨us, []⟩ = pure (P_add_twins.zip us) := match us, hl with
  | [_, _], _ => rfl
theorem b_answer_going (kV doc pm : Value) (an : Option Addr) (cdv ct : Value) (us : List Value) (hl : us.length = P_answer_going.length) : bindArgs (PySem.W.fnOf "answer_going" "answer_going" (defArgs s_answer_going) (defBody s_answer_going) (defScope s_answer_going) .none kV doc pm an cdv ct) ⟨us, []⟩ = pure (P_answer_going.zip us) := match us, hl with
  | [_, _, _], _ => rfl
theorem b_place_by_luck (kV doc pm : Value) (an : Option Addr) (cdv ct : Value) (us : List Value) (hl : us.length = P_place_by_luck.length) : bindArgs (PySem.W.fnOf "place_by_luck" "place_by_luck" (defArgs s_place_by_luck) (defBody s_place_by_luck) (defScope s_place_by_luck) .none kV doc pm an cdv ct) ⟨us, []⟩ = pure (P_place_by_luck.zip us) := match us, hl with
  | [_, _], _ => rfl
theorem b_has_ended (kV doc pm : Value) (an : Option Addr) (cdv ct : Value) (us : List Value) (hl : us.length = P_has_ended.length) : bindArgs (PySem.W.fnOf "has_ended" "has_ended" (defArgs s_has_ended) (defBody s_has_ended) (defScope s_has_ended) .none kV doc pm an cdv ct) ⟨us, []⟩ = pure (P_has_ended.zip us) := match us, hl with
  | [_], _ => rfl
theorem b_next_entry (kV doc pm : Value) (an : Option Addr) (cdv ct : Value) (us : List Value) (hl : us.length = P_next_entry.length) : bindArgs (PySem.W.fnOf "next_entry" "next_entry" (defArgs s_next_entry) (defBody s_next_entry) (defScope s_next_entry) .none kV doc pm an cdv ct) ⟨us, []⟩ = pure (P_next_entry.zip us) := match us, hl with
  | [_, _, _, _], _ => rfl
theorem b_do_entry (kV doc pm : Value) (an : Option Addr) (cdv ct : Value) (us : List Value) (hl : us.length = P_do_entry.length) : bindArgs (PySem.W.fnOf "do_entry" "do_entry" (defArgs s_do_entry) (defBody s_do_entry) (defScope s_do_entry) .none kV doc pm an cdv ct) ⟨us, []⟩ = pure (P_do_entry.zip us) := match us, hl with
  | [_, _], _ => rfl
theorem b_tell_ahead (kV doc pm : Value) (an : Option Addr) (cdv ct : Value) (us : List Value) (hl : us.length = P_tell_ahead.length) : bindArgs (PySem.W.fnOf "tell_ahead" "tell_ahead" (defArgs s_tell_ahead) (defBody s_tell_ahead) (defScope s_tell_ahead) .none kV doc pm an cdv ct) ⟨us, []⟩ = pure (P_tell_ahead.zip us) := match us, hl with
  | [_, _, _], _ => rfl
theorem b_go (kV doc pm : Value) (an : Option Addr) (cdv ct : Value) (us : List Value) (hl : us.length = P_go.length) : bindArgs (PySem.W.fnOf "go" "go" (defArgs s_go) (defBody s_go) (defScope s_go) .none kV doc pm an cdv ct) ⟨us, []⟩ = pure (P_go.zip us) := match us, hl with
  | [_, _, _], _ => rfl
theorem b_is_luck_row (kV doc pm : Value) (an : Option Addr) (cdv ct : Value) (us : List Value) (hl : us.length = P_is_luck_row.length) : bindArgs (PySem.W.fnOf "is_luck_row" "is_luck_row" (defArgs s_is_luck_row) (defBody s_is_luck_row) (defScope s_is_luck_row) .none kV doc pm an cdv ct) ⟨us, []⟩ = pure (P_is_luck_row.zip us) := match us, hl with
  | [_, _], _ => rfl
theorem b_run (kV doc pm : Value) (an : Option Addr) (cdv ct : Value) (us : List Value) (hl : us.length = P_run.length) : bindArgs (PySem.W.fnOf "run" "run" (defArgs s_run) (defBody s_run) (defScope s_run) .none kV doc pm an cdv ct) ⟨us, []⟩ = pure (P_run.zip us) := match us, hl with
  | [_, _, _], _ => rfl
theorem b_answer_promising (kV doc pm : Value) (an : Option Addr) (cdv ct : Value) (us : List Value) (hl : us.length = P_answer_promising.length) : bindArgs (PySem.W.fnOf "answer_promising" "answer_promising" (defArgs s_answer_promising) (defBody s_answer_promising) (defScope s_answer_promising) .none kV doc pm an cdv ct) ⟨us, []⟩ = pure (P_answer_promising.zip us) := match us, hl with
  | [_, _, _], _ => rfl
theorem b_put_promise (kV doc pm : Value) (an : Option Addr) (cdv ct : Value) (us : List Value) (hl : us.length = P_put_promise.length) : bindArgs (PySem.W.fnOf "put_promise" "put_promise" (defArgs s_put_promise) (defBody s_put_promise) (defScope s_put_promise) .none kV doc pm an cdv ct) ⟨us, []⟩ = pure (P_put_promise.zip us) := match us, hl with
  | [_, _], _ => rfl
theorem b_promise_never (kV doc pm : Value) (an : Option Addr) (cdv ct : Value) (us : List Value) (hl : us.length = P_promise_never.length) : bindArgs (PySem.W.fnOf "promise_never" "promise_never" (defArgs s_promise_never) (defBody s_promise_never) (defScope s_promise_never) .none kV doc pm an cdv ct) ⟨us, []⟩ = pure (P_promise_never.zip us) := match us, hl with
  | [_, _, _], _ => rfl
theorem b_promise_stay (kV doc pm : Value) (an : Option Addr) (cdv ct : Value) (us : List Value) (hl : us.length = P_promise_stay.length) : bindArgs (PySem.W.fnOf "promise_stay" "promise_stay" (defArgs s_promise_stay) (defBody s_promise_stay) (defScope s_promise_stay) .none kV doc pm an cdv ct) ⟨us, []⟩ = pure (P_promise_stay.zip us) := match us, hl with
  | [_, _, _, _], _ => rfl
theorem b_is_worth_row (kV doc pm : Value) (an : Option Addr) (cdv ct : Value) (us : List Value) (hl : us.length = P_is_worth_row.length) : bindArgs (PySem.W.fnOf "is_worth_row" "is_worth_row" (defArgs s_is_worth_row) (defBody s_is_worth_row) (defScope s_is_worth_row) .none kV doc pm an cdv ct) ⟨us, []⟩ = pure (P_is_worth_row.zip us) := match us, hl with
  | [_], _ => rfl
theorem b_promise_worth (kV doc pm : Value) (an : Option Addr) (cdv ct : Value) (us : List Value) (hl : us.length = P_promise_worth.length) : bindArgs (PySem.W.fnOf "promise_worth" "promise_worth" (defArgs s_promise_worth) (defBody s_promise_worth) (defScope s_promise_worth) .none kV doc pm an cdv ct) ⟨us, []⟩ = pure (P_promise_worth.zip us) := match us, hl with
  | [_, _, _, _, _, _], _ => rfl
theorem b_has_promise (kV doc pm : Value) (an : Option Addr) (cdv ct : Value) (us : List Value) (hl : us.length = P_has_promise.length) : bindArgs (PySem.W.fnOf "has_promise" "has_promise" (defArgs s_has_promise) (defBody s_has_promise) (defScope s_has_promise) .none kV doc pm an cdv ct) ⟨us, []⟩ = pure (P_has_promise.zip us) := match us, hl with
  | [_, _], _ => rfl
theorem b_tell_promise (kV doc pm : Value) (an : Option Addr) (cdv ct : Value) (us : List Value) (hl : us.length = P_tell_promise.length) : bindArgs (PySem.W.fnOf "tell_promise" "tell_promise" (defArgs s_tell_promise) (defBody s_tell_promise) (defScope s_tell_promise) .none kV doc pm an cdv ct) ⟨us, []⟩ = pure (P_tell_promise.zip us) := match us, hl with
  | [_, _], _ => rfl
theorem b_take_promise (kV doc pm : Value) (an : Option Addr) (cdv ct : Value) (us : List Value) (hl : us.length = P_take_promise.length) : bindArgs (PySem.W.fnOf "take_promise" "take_promise" (defArgs s_take_promise) (defBody s_take_promise) (defScope s_take_promise) .none kV doc pm an cdv ct) ⟨us, []⟩ = pure (P_take_promise.zip us) := match us, hl with
  | [_, _], _ => rfl
theorem b_tell_holds (kV doc pm : Value) (an : Option Addr) (cdv ct : Value) (us : List Value) (hl : us.length = P_tell_holds.length) : bindArgs (PySem.W.fnOf "tell_holds" "tell_holds" (defArgs s_tell_holds) (defBody s_tell_holds) (defScope s_tell_holds) .none kV doc pm an cdv ct) ⟨us, []⟩ = pure (P_tell_holds.zip us) := match us, hl with
  | [_, _, _, _, _], _ => rfl
theorem b_tell_count (kV doc pm : Value) (an : Option Addr) (cdv ct : Value) (us : List Value) (hl : us.length = P_tell_count.length) : bindArgs (PySem.W.fnOf "tell_count" "tell_count" (defArgs s_tell_count) (defBody s_tell_count) (defScope s_tell_count) .none kV doc pm an cdv ct) ⟨us, []⟩ = pure (P_tell_count.zip us) := match us, hl with
  | [_], _ => rfl
theorem b_answer_question (kV doc pm : Value) (an : Option Addr) (cdv ct : Value) (us : List Value) (hl : us.length = P_answer_question.length) : bindArgs (PySem.W.fnOf "answer_question" "answer_question" (defArgs s_answer_question) (defBody s_answer_question) (defScope s_answer_question) .none kV doc pm an cdv ct) ⟨us, []⟩ = pure (P_answer_question.zip us) := match us, hl with
  | [_, _, _], _ => rfl
theorem b_put_helper (kV doc pm : Value) (an : Option Addr) (cdv ct : Value) (us : List Value) (hl : us.length = P_put_helper.length) : bindArgs (PySem.W.fnOf "put_helper" "put_helper" (defArgs s_put_helper) (defBody s_put_helper) (defScope s_put_helper) .none kV doc pm an cdv ct) ⟨us, []⟩ = pure (P_put_helper.zip us) := match us, hl with
  | [_, _, _, _], _ => rfl
theorem b_tell_stand (kV doc pm : Value) (an : Option Addr) (cdv ct : Value) (us : List Value) (hl : us.length = P_tell_stand.length) : bindArgs (PySem.W.fnOf "tell_stand" "tell_stand" (defArgs s_tell_stand) (defBody s_tell_stand) (defScope s_tell_stand) .none kV doc pm an cdv ct) ⟨us, []⟩ = pure (P_tell_stand.zip us) := match us, hl with
  | [_], _ => rfl
theorem b_tell_act (kV doc pm : Value) (an : Option Addr) (cdv ct : Value) (us : List Value) (hl : us.length = P_tell_act.length) : bindArgs (PySem.W.fnOf "tell_act" "tell_act" (defArgs s_tell_act) (defBody s_tell_act) (defScope s_tell_act) .none kV doc pm an cdv ct) ⟨us, []⟩ = pure (P_tell_act.zip us) := match us, hl with
  | [_, _, _, _, _], _ => rfl
theorem b_tell_lights (kV doc pm : Value) (an : Option Addr) (cdv ct : Value) (us : List Value) (hl : us.length = P_tell_lights.length) : bindArgs (PySem.W.fnOf "tell_lights" "tell_lights" (defArgs s_tell_lights) (defBody s_tell_lights) (defScope s_tell_lights) .none kV doc pm an cdv ct) ⟨us, []⟩ = pure (P_tell_lights.zip us) := match us, hl with
  | [_, _, _, _, _], _ => rfl
theorem b_tell_cost (kV doc pm : Value) (an : Option Addr) (cdv ct : Value) (us : List Value) (hl : us.length = P_tell_cost.length) : bindArgs (PySem.W.fnOf "tell_cost" "tell_cost" (defArgs s_tell_cost) (defBody s_tell_cost) (defScope s_tell_cost) .none kV doc pm an cdv ct) ⟨us, []⟩ = pure (P_tell_cost.zip us) := match us, hl with
  | [_, _, _, _, _, _], _ => rfl
theorem b_tell_lonely (kV doc pm : Value) (an : Option Addr) (cdv ct : Value) (us : List Value) (hl : us.length = P_tell_lonely.length) : bindArgs (PySem.W.fnOf "tell_lonely" "tell_lonely" (defArgs s_tell_lonely) (defBody s_tell_lonely) (defScope s_tell_lonely) .none kV doc pm an cdv ct) ⟨us, []⟩ = pure (P_tell_lonely.zip us) := match us, hl with
  | [_], _ => rfl
theorem b_answer_telling (kV doc pm : Value) (an : Option Addr) (cdv ct : Value) (us : List Value) (hl : us.length = P_answer_telling.length) : bindArgs (PySem.W.fnOf "answer_telling" "answer_telling" (defArgs s_answer_telling) (defBody s_answer_telling) (defScope s_answer_telling) .none kV doc pm an cdv ct) ⟨us, []⟩ = pure (P_answer_telling.zip us) := match us, hl with
  | [_, _, _], _ => rfl
theorem b_tell_entry (kV doc pm : Value) (an : Option Addr) (cdv ct : Value) (us : List Value) (hl : us.length = P_tell_entry.length) : bindArgs (PySem.W.fnOf "tell_entry" "tell_entry" (defArgs s_tell_entry) (defBody s_tell_entry) (defScope s_tell_entry) .none kV doc pm an cdv ct) ⟨us, []⟩ = pure (P_tell_entry.zip us) := match us, hl with
  | [_, _], _ => rfl
theorem b_tell_paid (kV doc pm : Value) (an : Option Addr) (cdv ct : Value) (us : List Value) (hl : us.length = P_tell_paid.length) : bindArgs (PySem.W.fnOf "tell_paid" "tell_paid" (defArgs s_tell_paid) (defBody s_tell_paid) (defScope s_tell_paid) .none kV doc pm an cdv ct) ⟨us, []⟩ = pure (P_tell_paid.zip us) := match us, hl with
  | [_], _ => rfl
theorem b_tell_became (kV doc pm : Value) (an : Option Addr) (cdv ct : Value) (us : List Value) (hl : us.length = P_tell_became.length) : bindArgs (PySem.W.fnOf "tell_became" "tell_became" (defArgs s_tell_became) (defBody s_tell_became) (defScope s_tell_became) .none kV doc pm an cdv ct) ⟨us, []⟩ = pure (P_tell_became.zip us) := match us, hl with
  | [_], _ => rfl
theorem b_tell_still (kV doc pm : Value) (an : Option Addr) (cdv ct : Value) (us : List Value) (hl : us.length = P_tell_still.length) : bindArgs (PySem.W.fnOf "tell_still" "tell_still" (defArgs s_tell_still) (defBody s_tell_still) (defScope s_tell_still) .none kV doc pm an cdv ct) ⟨us, []⟩ = pure (P_tell_still.zip us) := match us, hl with
  | [_, _], _ => rfl
theorem b_answer_call (kV doc pm : Value) (an : Option Addr) (cdv ct : Value) (us : List Value) (hl : us.length = P_answer_call.length) : bindArgs (PySem.W.fnOf "answer_call" "answer_call" (defArgs s_answer_call) (defBody s_answer_call) (defScope s_answer_call) .none kV doc pm an cdv ct) ⟨us, []⟩ = pure (P_answer_call.zip us) := match us, hl with
  | [_, _, _], _ => rfl
theorem b_answers (kV doc pm : Value) (an : Option Addr) (cdv ct : Value) (us : List Value) (hl : us.length = P_answers.length) : bindArgs (PySem.W.fnOf "answers" "answers" (defArgs s_answers) (defBody s_answers) (defScope s_answers) .none kV doc pm an cdv ct) ⟨us, []⟩ = pure (P_answers.zip us) := match us, hl with
  | [_], _ => rfl
section
variable {K : PySem.W.Frag} {h : Heap} {mg : Str → Option Value}
theorem df_mk {x : Str} {st : Stmt} {ps : List Str} {f : Addr} {oc : Value} {od an : Option Addr} {osl : Array (Option Value)} {kV doc pm cdv ct : Value} (X : K.In h) (G : h.Ns mainGlobals mg) (a : PySem.W.nsIn K mainGlobals x = some (some (.ref f)))
    (l : K.lookup f = some ⟨oc, od, .func (PySem.W.fnOf x x (defArgs st) (defBody st) (defScope st) .none kV doc pm an cdv ct), osl⟩) (c : PySem.W.codeIn K cdv x = true) (k : PySem.W.keepIn K (.ref f) = true)
    (b : ∀ (kV doc pm : Value) (an : Option Addr) (cdv ct : Value) (us : List Value), us.length = ps.length → bindArgs (PySem.W.fnOf x x (defArgs st) (defBody st) (defScope st) .none kV doc pm an cdv ct) ⟨us, []⟩ = pure (ps.zip us)) : ∃ f fd, Df K mg x st ps f fd := by
  have F := fun_mk (st := st) l c k
  exact ⟨f, _, F, PySem.W.mg_of X G a, F.binds b⟩
theorem na_nil {C : Addr} : ∀ a ∈ ([] : List Str), NoAttr K C a := fun _ h => nomatch h
theorem na_cons {C : Addr} {x : Str} {r : List Str} (h1 : PySem.W.findIn K (.ref C) x = some none) (h2 : ∀ a ∈ r, NoAttr K C a) : ∀ a ∈ x :: r, NoAttr K C a := fun a h => by
  rcases List.mem_cons.mp h with z | z
  · rw [z]
    exact h1
  · exact h2 a z
theorem cl_mk {x q : Str} {st : Stmt} {ps attrs : List Str} {C f : Addr} {oc : Value} {od an : Option Addr} {osl : Array (Option Value)} {kV doc pm cdv ct : Value} (X : K.In h) (G : h.Ns mainGlobals mg) (a : PySem.W.nsIn K mainGlobals x = some (some (.ref C)))
    (a1 : PySem.W.findIn K (.ref C) "__init__" = some (some (.ref f))) (i1 : PySem.W.isFn K (.ref f) = true) (l : K.lookup f = some ⟨oc, od, .func (PySem.W.fnOf "__init__" q (defArgs st) (defBody st) (defScope st) .none kV doc pm an cdv ct), osl⟩) (c : PySem.W.codeIn K cdv q = true) (k : PySem.W.keepIn K (.ref f) = true)
    (pg : PySem.W.plainGet K C Str.empty = true) (hd : PySem.W.hasDictIn K C = true) (po : PySem.W.plainOver K C = true) (sa : PySem.W.findIn K (.ref C) "__setattr__" = some (some (.builtin "object.__setattr__"))) (mk : PySem.W.makesIn K C = true) (kc : PySem.W.keepIn K (.ref C) = true)
    (na : ∀ a ∈ attrs, NoAttr K C a) (b : ∀ (kV doc pm : Value) (an : Option Addr) (cdv ct : Value) (us : List Value), us.length = ps.length → bindArgs (PySem.W.fnOf "__init__" q (defArgs st) (defBody st) (defScope st) .none kV doc pm an cdv ct) ⟨us, []⟩ = pure (ps.zip us)) : ∃ C f fd, Cl K mg x q st ps attrs C f fd := by
  have F := fun_mk (st := st) l c k
  exact ⟨C, f, _, F, PySem.W.mg_of X G a, F.binds b, ⟨mk, a1, i1, kc⟩, ⟨pg, hd, po, sa⟩, na⟩
theorem const_mk {x : Str} {i : Int} {t : Nat} (X : K.In h) (G : h.Ns mainGlobals mg) (a : PySem.W.nsIn K mainGlobals x = some (some (.int i t))) : ∃ t, mg x = some (.int i t) := ⟨t, PySem.W.mg_of X G a⟩
theorem ds_k {n : Nm} (_X : K.In h) (d : Ds n K mg) : Ds n K mg := d
theorem bindsTo_of {x : Str} {st : Stmt} {ps : List Str} {f : Addr} {fd : FuncData} (F : Fun K x x st f fd)
    (b : ∀ (kV doc pm : Value) (an : Option Addr) (cdv ct : Value) (us : List Value), us.length = ps.length → bindArgs (PySem.W.fnOf x x (defArgs st) (defBody st) (defScope st) .none kV doc pm an cdv ct) ⟨us, []⟩ = pure (ps.zip us)) :
    ∀ (s : Shared) (us : List Value), us.length = ps.length → BindsTo s fd ⟨us, []⟩ (ps.zip us) := by
  obtain ⟨oc, od, kV, doc, pm, an, cdv, ct, osl, rfl, lk, hcd⟩ := F.ex
  exact fun s us hu => .of_eq (b kV doc pm an cdv ct us hu)
end
end CI
/-! How likely it stands how: by what it does from then on. -/
namespace CI
open Kp340 (Fr fr)
open Kp379 (World Act Stand Row)
/-! ### a fraction's worth -/
def val (x : Fr) : Rat := (x.1 : Rat) / (x.2 : Rat)
theorem cast_ne {b : Int} (h : 0 < b) : (b : Rat) ≠ 0 := by
  simp
  omega
theorem val_fr {a b : Int} (h : 0 < b) : val (fr a b) = (a : Rat) / (b : Rat) := by
  have h1 := fr_cross (a := a) h
  have h2 := fr_den (a := a) h
  have h3 : ((fr a b).1 : Rat) * (b : Rat) = (a : Rat) * ((fr a b).2 : Rat) := by exact_mod_cast h1
  have h4 := cast_ne h
  have h5 := cast_ne h2
  unfold val
  grind
theorem val_add {x y : Fr} (hx : Pos x) (hy : Pos y) : val (Kp340.add x y) = val x + val y := by
  have h := val_fr (a := x.1 * y.2 + y.1 * x.2) (Int.mul_pos hx hy)
  have h1 := cast_ne hx
  have h2 := cast_ne hy
  show val (fr _ _) = _
  rw [h]
  unfold val
  push_cast
  grind
theorem val_mul {x y : Fr} (hx : Pos x) (hy : Pos y) : val (Kp340.mul x y) = val x * val y := by
  have h := val_fr (a := x.1 * y.1) (Int.mul_pos hx hy)
  have h1 := cast_ne hx
  have h2 := cast_ne hy
  show val (fr _ _) = _
  rw [h]
  unfold val
  push_cast
  grind
theorem val_zero : val (0, 1) = 0 := by
  show ((0 : Int) : Rat) / ((1 : Int) : Rat) = 0
  simp
  grind
theorem val_one : val (1, 1) = 1 := by
  show ((1 : Int) : Rat) / ((1 : Int) : Rat) = 1
  simp
  grind
theorem pos_zero : Pos (0, 1) := show (0 : Int) < 1 by decide
theorem pos_one : Pos (1, 1) := show (0 : Int) < 1 by decide
theorem val_eq_zero {x : Fr} (hx : Pos x) : val x = 0 ↔ x.1 = 0 := by
  have h := cast_ne hx
  unfold val
  constructor
  · intro h1
    have h2 : (x.1 : Rat) = 0 := by grind
    exact_mod_cast h2
  · intro h1
    rw [h1]
    simp
    grind
/-- in lowest terms -/
def Nrm (x : Fr) : Prop := Pos x ∧ fr x.1 x.2 = x
theorem nrm_fr {a b : Int} (h : 0 < b) : Nrm (fr a b) := by
  have h2 := fr_den (a := a) h
  exact ⟨h2, fr_congr h2 h (fr_cross h)⟩
theorem eq_of_val {x y : Fr} (hx : Nrm x) (hy : Nrm y) (h : val x = val y) : x = y := by
  have h1 := cast_ne hx.1
  have h2 := cast_ne hy.1
  have h3 : (x.1 : Rat) * (y.2 : Rat) = (y.1 : Rat) * (x.2 : Rat) := by
    unfold val at h
    grind
  have h4 : x.1 * y.2 = y.1 * x.2 := by exact_mod_cast h3
  rw [← hx.2, ← hy.2]
  exact fr_congr hx.1 hy.1 h4
theorem nrm_zero : Nrm (0, 1) := ⟨pos_zero, by decide⟩
theorem nrm_one : Nrm (1, 1) := ⟨pos_one, by decide⟩
theorem nrm_add {x y : Fr} (hx : Pos x) (hy : Pos y) : Nrm (Kp340.add x y) := nrm_fr (Int.mul_pos hx hy)
theorem nrm_mul {x y : Fr} (hx : Pos x) (hy : Pos y) : Nrm (Kp340.mul x y) := nrm_fr (Int.mul_pos hx hy)
theorem sumF_snoc (l : List Fr) (y : Fr) : Kp340.sumF (l ++ [y]) = Kp340.add (Kp340.sumF l) y := by
  unfold Kp340.sumF
  rw [List.foldl_append]
  rfl
theorem foldl_add_val : ∀ (l : List Fr) (a : Fr), Nrm a → (∀ x ∈ l, Pos x) → Nrm (l.foldl Kp340.add a) ∧ val (l.foldl Kp340.add a) = val a + (l.map val).sum
  | [], a, ha, _ => ⟨ha, by simp; grind⟩
  | x :: r, a, ha, h => by
    have hx := h x (List.mem_cons_self ..)
    obtain ⟨h1, h2⟩ := foldl_add_val r (Kp340.add a x) (nrm_add ha.1 hx) fun y hy => h y (List.mem_cons_of_mem _ hy)
    refine ⟨h1, ?_⟩
    rw [List.foldl_cons, h2, val_add ha.1 hx, List.map_cons, List.sum_cons]
    grind
theorem sumF_val {l : List Fr} (h : ∀ x ∈ l, Pos x) : Nrm (Kp340.sumF l) ∧ val (Kp340.sumF l) = (l.map val).sum := by
  obtain ⟨h1, h2⟩ := foldl_add_val l (0, 1) nrm_zero h
  refine ⟨h1, ?_⟩
  show val (l.foldl Kp340.add (0, 1)) = _
  rw [h2, val_zero]
  grind
theorem nat_cast (m : Nat) : (((m : Nat) : Int) : Rat) = ((m : Nat) : Rat) := by norm_cast
theorem share_val {ws : List Nat} {q : Nat} (ht : 0 < Kp346.total ws) : Nrm (Kp346.share ws q) ∧ val (Kp346.share ws q) = ((ws.getD q 0 : Nat) : Rat) / ((Kp346.total ws : Nat) : Rat) := by
  have hT : 0 < ((Kp346.total ws : Nat) : Int) := by omega
  refine ⟨nrm_fr hT, ?_⟩
  show val (fr _ _) = _
  rw [val_fr hT, nat_cast, nat_cast]
/-! ### sums -/
theorem sum_zero {α : Type} : ∀ (l : List α) (f : α → Rat), (∀ x ∈ l, f x = 0) → (l.map f).sum = 0
  | [], _, _ => rfl
  | x :: r, f, h => by
    rw [List.map_cons, List.sum_cons, h x (List.mem_cons_self ..), sum_zero r f fun y hy => h y (List.mem_cons_of_mem _ hy)]
    grind
theorem sum_congr {α : Type} {l : List α} {f g : α → Rat} (h : ∀ x ∈ l, f x = g x) : (l.map f).sum = (l.map g).sum := by
  rw [List.map_congr_left h]
theorem sum_add {α : Type} : ∀ (l : List α) (f g : α → Rat), (l.map fun x => f x + g x).sum = (l.map f).sum + (l.map g).sum
  | [], _, _ => by simp only [List.map_nil, List.sum_nil]; grind
  | x :: r, f, g => by
    simp only [List.map_cons, List.sum_cons, sum_add r f g]
    grind
theorem sum_mul {α : Type} : ∀ (l : List α) (f : α → Rat) (c : Rat), (l.map fun x => f x * c).sum = (l.map f).sum * c
  | [], _, _ => by simp only [List.map_nil, List.sum_nil]; grind
  | x :: r, f, c => by
    simp only [List.map_cons, List.sum_cons, sum_mul r f c]
    grind
theorem mul_sum {α : Type} (l : List α) (f : α → Rat) (c : Rat) : (l.map fun x => c * f x).sum = c * (l.map f).sum := by
  have h := sum_mul l f c
  have e : (l.map fun x => c * f x).sum = (l.map fun x => f x * c).sum := sum_congr fun x _ => by grind
  rw [e, h]
  grind
theorem sum_comm {α β : Type} : ∀ (l : List α) (m : List β) (f : α → β → Rat), (l.map fun x => (m.map fun y => f x y).sum).sum = (m.map fun y => (l.map fun x => f x y).sum).sum
  | [], m, f => by
    simp only [List.map_nil, List.sum_nil]
    exact (sum_zero m _ fun _ _ => rfl).symm
  | x :: r, m, f => by
    simp only [List.map_cons, List.sum_cons, sum_comm r m f]
    rw [sum_add]
theorem sum_flat {α : Type} (f : α → Rat) (g : Nat → List α) : ∀ n, (((List.range n).flatMap g).map f).sum = ((List.range n).map fun i => ((g i).map f).sum).sum
  | 0 => rfl
  | n + 1 => by
    rw [List.range_succ, List.flatMap_append, List.map_append, List.sum_append, List.map_append, List.sum_append, sum_flat f g n]
    simp only [List.flatMap_cons, List.flatMap_nil, List.append_nil, List.map_cons, List.map_nil, List.sum_cons, List.sum_nil]
    grind
/-- just one of them counts -/
theorem sum_one {f : Nat → Rat} {j : Nat} : ∀ {n : Nat}, j < n → (∀ i, i < n → i ≠ j → f i = 0) → ((List.range n).map f).sum = f j
  | 0, h, _ => by omega
  | n + 1, h, hf => by
    rw [List.range_succ, List.map_append, List.sum_append]
    simp only [List.map_cons, List.map_nil, List.sum_cons, List.sum_nil]
    by_cases c : j = n
    · subst c
      rw [sum_zero _ _ fun i hi => hf i (by have := List.mem_range.mp hi; omega) (by have := List.mem_range.mp hi; omega)]
      grind
    · rw [sum_one (n := n) (by omega) fun i hi hne => hf i (by omega) hne, hf n (by omega) (fun z => c z.symm)]
      grind
theorem sum_nonneg {α : Type} : ∀ (l : List α) (f : α → Rat), (∀ x ∈ l, 0 ≤ f x) → 0 ≤ (l.map f).sum
  | [], _, _ => by simp
  | x :: r, f, h => by
    have h1 := h x (List.mem_cons_self ..)
    have h2 := sum_nonneg r f fun y hy => h y (List.mem_cons_of_mem _ hy)
    simp only [List.map_cons, List.sum_cons]
    grind
theorem sum_eq_zero {α : Type} : ∀ {l : List α} {f : α → Rat}, (∀ x ∈ l, 0 ≤ f x) → (l.map f).sum = 0 → ∀ x ∈ l, f x = 0
  | [], _, _, _, x, hx => by cases hx
  | y :: r, f, h, hs, x, hx => by
    have h1 := h y (List.mem_cons_self ..)
    have h2 := sum_nonneg r f fun z hz => h z (List.mem_cons_of_mem _ hz)
    simp only [List.map_cons, List.sum_cons] at hs
    have h3 : f y = 0 := by grind
    have h4 : (r.map f).sum = 0 := by grind
    rcases List.mem_cons.mp hx with z | z
    · rw [z]; exact h3
    · exact sum_eq_zero (fun z hz => h z (List.mem_cons_of_mem _ hz)) h4 x z
/-! ### one step -/
/-- how likely it stands as y behind one step, with j steps left ahead of it -/
def mv (w : World) (j : Nat) (z y : Stand) : Rat := match Kp379.does w z j with
  | none => if z = y then 1 else 0
  | some a => if Kp379.behind z (Kp379.actAt w z.p a) y.p = y ∧ (Kp379.actAt w z.p a).to.getD y.p 0 ≠ 0 then (((Kp379.actAt w z.p a).to.getD y.p 0 : Nat) : Rat) / ((Kp346.total (Kp379.actAt w z.p a).to : Nat) : Rat) else 0
/-- the acts that are done there are acts as they should be -/
def Fine (w : World) : Prop := ∀ (z : Stand) (j a : Nat), z.p < w.n ∧ z.s < w.v → Kp379.does w z j = some a → 0 < Kp346.total (Kp379.actAt w z.p a).to ∧ ∀ q, q < w.n → (Kp379.behind z (Kp379.actAt w z.p a) q).p < w.n ∧ (Kp379.behind z (Kp379.actAt w z.p a) q).s < w.v
theorem mv_nonneg {w : World} {j : Nat} {z y : Stand} : 0 ≤ mv w j z y := by
  unfold mv
  split
  · split <;> grind
  · split
    · rw [← nat_cast, ← nat_cast, ← Rat.divInt_eq_div]
      exact Rat.divInt_nonneg (Int.natCast_nonneg _) (Int.natCast_nonneg _)
    · grind
/-- the step as the specification's fold has it -/
def dterm (w : World) (k : Nat) (d : List Fr) (i : Nat) (y z : Stand) : Fr := if (d.getD (Kp379.index w z) (0, 1)).1 = 0 then (0, 1) else match (((Kp379.rows w k).getD (k - i) []).getD (Kp379.index w z) (none, [])).1 with
  | none => if z = y then d.getD (Kp379.index w z) (0, 1) else (0, 1)
  | some a => if Kp379.behind z (Kp379.actAt w z.p a) y.p = y ∧ (Kp379.actAt w z.p a).to.getD y.p 0 ≠ 0 then Kp340.mul (d.getD (Kp379.index w z) (0, 1)) (Kp346.share (Kp379.actAt w z.p a).to y.p) else (0, 1)
def dstep (w : World) (k : Nat) (d : List Fr) (i : Nat) : List Fr := (Kp379.stands w).map fun y => Kp340.sumF ((Kp379.stands w).map (dterm w k d i y))
def dist (w : World) (x : Stand) (k t : Nat) : List Fr := (List.range t).foldl (dstep w k) ((Kp379.stands w).map fun y => if y = x then (1, 1) else (0, 1))
theorem after_is (w : World) (x : Stand) (k : Nat) : Kp379.after w x k = dist w x k k := rfl
theorem stays_is (w : World) (s p k : Nat) : Kp381.stays w s p k = (List.range (k + 1)).all fun t => (Kp379.stands w).all fun y => y.s == s || ((dist w ⟨p, s, false⟩ k t).getD (Kp379.index w y) (0, 1)).1 == 0 := rfl
theorem dist_succ (w : World) (x : Stand) (k t : Nat) : dist w x k (t + 1) = dstep w k (dist w x k t) t := by
  unfold dist
  rw [List.range_succ, List.foldl_append]
  rfl
/-- how likely it stands as y behind t steps -/
def pr (w : World) (x : Stand) (k t : Nat) (y : Stand) : Rat := val ((dist w x k t).getD (Kp379.index w y) (0, 1))
theorem getD_map {w : World} {y : Stand} (g : Stand → Fr) (h : y.p < w.n ∧ y.s < w.v) : ((Kp379.stands w).map g).getD (Kp379.index w y) (0, 1) = g y := by
  rw [List.getD_eq_getElem?_getD, List.getElem?_map, stand_at h]
  rfl
theorem row_does {w : World} {k i : Nat} {z : Stand} (hi : i < k) : (((Kp379.rows w k).getD (k - i) []).getD (Kp379.index w z) (none, [])).1 = Kp379.does w z (k - i) := by
  have e : (Kp379.rows w k).getD (k - i) [] = Kp379.rowAt w (k - i) := by
    rw [List.getD_eq_getElem?_getD, rows_get w k (k - i) (by omega)]
    rfl
  rw [e]
  rfl
theorem dist_pos {w : World} (fine : Fine w) (x : Stand) (k : Nat) : ∀ t, t ≤ k → ∀ y, y.p < w.n ∧ y.s < w.v → Nrm ((dist w x k t).getD (Kp379.index w y) (0, 1)) ∧ ∀ t', t = t' + 1 → pr w x k t y = ((Kp379.stands w).map fun z => pr w x k t' z * mv w (k - t') z y).sum
  | 0, _, y, hy => by
    refine ⟨?_, fun t' h => by omega⟩
    show Nrm (((Kp379.stands w).map fun y => if y = x then ((1 : Int), (1 : Int)) else (0, 1)).getD (Kp379.index w y) (0, 1))
    rw [getD_map _ hy]
    split
    · exact nrm_one
    · exact nrm_zero
  | t + 1, ht, y, hy => by
    have ih := dist_pos fine x k t (by omega)
    have each : ∀ z ∈ Kp379.stands w, Pos (dterm w k (dist w x k t) t y z) ∧ val (dterm w k (dist w x k t) t y z) = pr w x k t z * mv w (k - t) z y := by
      intro z hz
      have oz := mem_stands hz
      have nz := (ih z oz).1
      unfold dterm
      rw [row_does (by omega)]
      by_cases c0 : ((dist w x k t).getD (Kp379.index w z) (0, 1)).1 = 0
      · rw [if_pos c0]
        refine ⟨pos_zero, ?_⟩
        have : pr w x k t z = 0 := (val_eq_zero nz.1).mpr c0
        rw [val_zero, this]
        grind
      · rw [if_neg c0]
        unfold mv
        cases e : Kp379.does w z (k - t) with
        | none =>
          simp only
          by_cases c1 : z = y
          · rw [if_pos c1, if_pos c1]
            exact ⟨nz.1, by unfold pr; grind⟩
          · rw [if_neg c1, if_neg c1]
            exact ⟨pos_zero, by rw [val_zero]; grind⟩
        | some a =>
          simp only
          obtain ⟨ft, _⟩ := fine z (k - t) a oz e
          obtain ⟨s1, s2⟩ := share_val (q := y.p) ft
          by_cases c1 : Kp379.behind z (Kp379.actAt w z.p a) y.p = y ∧ (Kp379.actAt w z.p a).to.getD y.p 0 ≠ 0
          · rw [if_pos c1, if_pos c1]
            exact ⟨(nrm_mul nz.1 s1.1).1, by rw [val_mul nz.1 s1.1, s2]; rfl⟩
          · rw [if_neg c1, if_neg c1]
            exact ⟨pos_zero, by rw [val_zero]; grind⟩
    have hd : (dist w x k (t + 1)).getD (Kp379.index w y) (0, 1) = Kp340.sumF ((Kp379.stands w).map (dterm w k (dist w x k t) t y)) := by
      rw [dist_succ]
      unfold dstep
      rw [getD_map _ hy]
    obtain ⟨s1, s2⟩ := sumF_val (l := (Kp379.stands w).map (dterm w k (dist w x k t) t y)) (fun u hu => by
      obtain ⟨z, hz, rfl⟩ := List.mem_map.mp hu
      exact (each z hz).1)
    refine ⟨by rw [hd]; exact s1, fun t' h => ?_⟩
    have : t' = t := by omega
    subst this
    unfold pr
    rw [hd, s2, List.map_map]
    exact sum_congr fun z hz => (each z hz).2
theorem pr_succ {w : World} (fine : Fine w) {x y : Stand} {k t : Nat} (ht : t < k) (hy : y.p < w.n ∧ y.s < w.v) : pr w x k (t + 1) y = ((Kp379.stands w).map fun z => pr w x k t z * mv w (k - t) z y).sum := (dist_pos fine x k (t + 1) (by omega) y hy).2 t rfl
theorem pr_zero {w : World} {x y : Stand} {k : Nat} (hy : y.p < w.n ∧ y.s < w.v) : pr w x k 0 y = if y = x then 1 else 0 := by
  unfold pr
  show val (((Kp379.stands w).map fun y => if y = x then ((1 : Int), (1 : Int)) else (0, 1)).getD (Kp379.index w y) (0, 1)) = _
  rw [getD_map _ hy]
  split
  · exact val_one
  · exact val_zero
end CI
/-! The chance to be still the same, by what is done from then on; and surely the same. -/
namespace CI
open Kp340 (Fr fr)
open Kp379 (World Act Stand Row)
abbrev Ok (w : World) (x : Stand) : Prop := x.p < w.n ∧ x.s < w.v
/-- all stands, summed place by place, self by self -/
theorem sum_stands (w : World) (f : Stand → Rat) : ((Kp379.stands w).map f).sum = ((List.range w.n).map fun p => ((List.range w.v).map fun s => f ⟨p, s, false⟩ + f ⟨p, s, true⟩).sum).sum := by
  rw [stands_eq, sum_flat]
  refine sum_congr fun p _ => ?_
  rw [sum_flat]
  refine sum_congr fun s _ => ?_
  show f ⟨p, s, false⟩ + (f ⟨p, s, true⟩ + 0) = _
  grind
/-- of all stands just those count that are what g says of their place -/
theorem sum_behind {w : World} (g : Nat → Stand) (hg : ∀ q, q < w.n → Ok w (g q) ∧ (g q).p = q) (f : Stand → Rat) (hf : ∀ y, Ok w y → g y.p ≠ y → f y = 0) : ((Kp379.stands w).map f).sum = ((List.range w.n).map fun q => f (g q)).sum := by
  rw [sum_stands]
  refine sum_congr fun p hp => ?_
  have hp' := List.mem_range.mp hp
  obtain ⟨⟨_, h1⟩, h2⟩ := hg p hp'
  have e : ((List.range w.v).map fun s => f ⟨p, s, false⟩ + f ⟨p, s, true⟩).sum = f ⟨p, (g p).s, false⟩ + f ⟨p, (g p).s, true⟩ := by
    refine sum_one h1 fun i hi hne => ?_
    rw [hf ⟨p, i, false⟩ ⟨hp', hi⟩ (fun z => hne (by rw [show g p = ⟨p, i, false⟩ from z])), hf ⟨p, i, true⟩ ⟨hp', hi⟩ (fun z => hne (by rw [show g p = ⟨p, i, true⟩ from z]))]
    grind
  rw [e]
  cases hl : (g p).locked with
  | false =>
    have e1 : g p = ⟨p, (g p).s, false⟩ := by
      cases hgp : g p with
      | mk a b c => rw [hgp] at h2 hl; simp only at h2 hl; rw [h2, hl]
    rw [hf ⟨p, (g p).s, true⟩ ⟨hp', h1⟩ (fun z => by rw [show g p = ⟨p, (g p).s, true⟩ from z] at hl; cases hl), ← e1]
    grind
  | true =>
    have e1 : g p = ⟨p, (g p).s, true⟩ := by
      cases hgp : g p with
      | mk a b c => rw [hgp] at h2 hl; simp only at h2 hl; rw [h2, hl]
    rw [hf ⟨p, (g p).s, false⟩ ⟨hp', h1⟩ (fun z => by rw [show g p = ⟨p, (g p).s, false⟩ from z] at hl; cases hl), ← e1]
    grind
/-- one step back: what f is worth in the mean behind a step -/
def back (w : World) (j : Nat) (f : Stand → Rat) (z : Stand) : Rat := match Kp379.does w z j with
  | none => f z
  | some a => ((List.range w.n).map fun q => (((Kp379.actAt w z.p a).to.getD q 0 : Nat) : Rat) / ((Kp346.total (Kp379.actAt w z.p a).to : Nat) : Rat) * f (Kp379.behind z (Kp379.actAt w z.p a) q)).sum
theorem sum_pick {w : World} {z : Stand} (hz : Ok w z) (f : Stand → Rat) : ((Kp379.stands w).map fun y => (if z = y then 1 else 0) * f y).sum = f z := by
  rw [sum_stands]
  have e : ((List.range w.n).map fun p => ((List.range w.v).map fun s => (if z = (⟨p, s, false⟩ : Stand) then 1 else 0) * f ⟨p, s, false⟩ + (if z = (⟨p, s, true⟩ : Stand) then 1 else 0) * f ⟨p, s, true⟩).sum).sum = ((List.range w.v).map fun s => (if z = (⟨z.p, s, false⟩ : Stand) then 1 else 0) * f ⟨z.p, s, false⟩ + (if z = (⟨z.p, s, true⟩ : Stand) then 1 else 0) * f ⟨z.p, s, true⟩).sum :=
    sum_one hz.1 fun i _ hne => sum_zero _ _ fun s _ => by
      rw [if_neg (fun z' => hne (by rw [z'])), if_neg (fun z' => hne (by rw [z']))]
      grind
  rw [e]
  have e2 : ((List.range w.v).map fun s => (if z = (⟨z.p, s, false⟩ : Stand) then (1 : Rat) else 0) * f ⟨z.p, s, false⟩ + (if z = (⟨z.p, s, true⟩ : Stand) then 1 else 0) * f ⟨z.p, s, true⟩).sum = (if z = (⟨z.p, z.s, false⟩ : Stand) then 1 else 0) * f ⟨z.p, z.s, false⟩ + (if z = (⟨z.p, z.s, true⟩ : Stand) then 1 else 0) * f ⟨z.p, z.s, true⟩ :=
    sum_one hz.2 fun i _ hne => by
      rw [if_neg (fun z' => hne (by rw [z'])), if_neg (fun z' => hne (by rw [z']))]
      grind
  rw [e2]
  obtain ⟨p, s, l⟩ := z
  cases l
  · rw [if_pos rfl, if_neg (by simp)]
    grind
  · rw [if_neg (by simp), if_pos rfl]
    grind
theorem back_is {w : World} (fine : Fine w) {j : Nat} {f : Stand → Rat} {z : Stand} (hz : Ok w z) : ((Kp379.stands w).map fun y => mv w j z y * f y).sum = back w j f z := by
  unfold back mv
  cases e : Kp379.does w z j with
  | none => exact sum_pick hz f
  | some a =>
    simp only
    obtain ⟨_, fb⟩ := fine z j a hz e
    rw [sum_behind (w := w) (fun q => Kp379.behind z (Kp379.actAt w z.p a) q) (fun q hq => ⟨fb q hq, rfl⟩) _ fun y _ hne => by rw [if_neg (fun c => hne c.1)]; grind]
    refine sum_congr fun q _ => ?_
    by_cases c : (Kp379.actAt w z.p a).to.getD q 0 = 0
    · rw [if_neg (fun d => d.2 c), c]
      simp
      grind
    · rw [if_pos ⟨rfl, c⟩]
      rfl
/-- the chance to be self s behind j steps -/
def chance (w : World) (s : Nat) : Nat → Stand → Rat
  | 0, z => if z.s = s then 1 else 0
  | j + 1, z => back w (j + 1) (chance w s j) z
theorem duality {w : World} (fine : Fine w) {x : Stand} {s k : Nat} : ∀ t, t ≤ k → ((Kp379.stands w).map fun y => pr w x k t y * chance w s (k - t) y).sum = ((Kp379.stands w).map fun y => pr w x k 0 y * chance w s k y).sum
  | 0, _ => rfl
  | t + 1, ht => by
    rw [← duality fine t (by omega)]
    have e : ∀ y ∈ Kp379.stands w, pr w x k (t + 1) y * chance w s (k - (t + 1)) y = ((Kp379.stands w).map fun z => pr w x k t z * (mv w (k - t) z y * chance w s (k - (t + 1)) y)).sum := by
      intro y hy
      rw [pr_succ fine (by omega) (mem_stands hy), ← sum_mul]
      exact sum_congr fun z _ => by grind
    rw [sum_congr e, sum_comm (Kp379.stands w) (Kp379.stands w) fun y z => pr w x k t z * (mv w (k - t) z y * chance w s (k - (t + 1)) y)]
    refine sum_congr fun z hz => ?_
    rw [mul_sum]
    have ek : k - t = k - (t + 1) + 1 := by omega
    have eb := back_is fine (j := k - t) (f := chance w s (k - (t + 1))) (mem_stands hz)
    rw [eb, ek]
    rfl
/-- the specification's chance -/
theorem still_is {w : World} (fine : Fine w) {x : Stand} (hx : Ok w x) {s k : Nat} (hs : s < w.v) : Nrm ((Kp379.selves w x k).getD s (0, 1)) ∧ val ((Kp379.selves w x k).getD s (0, 1)) = chance w s k x := by
  have e : (Kp379.selves w x k).getD s (0, 1) = Kp340.sumF ((Kp379.stands w).map fun y => if y.s = s then (dist w x k k).getD (Kp379.index w y) (0, 1) else (0, 1)) := by
    show (((List.range w.v).map fun s => Kp340.sumF ((Kp379.stands w).map fun y => if y.s = s then (Kp379.after w x k).getD (Kp379.index w y) (0, 1) else (0, 1)))).getD s (0, 1) = _
    rw [List.getD_eq_getElem?_getD, List.getElem?_map, List.getElem?_range hs]
    rfl
  have hpos : ∀ u ∈ ((Kp379.stands w).map fun y => if y.s = s then (dist w x k k).getD (Kp379.index w y) (0, 1) else ((0 : Int), (1 : Int))), Pos u := by
    intro u hu
    obtain ⟨y, hy, rfl⟩ := List.mem_map.mp hu
    split
    · exact (dist_pos fine x k k (Nat.le_refl _) y (mem_stands hy)).1.1
    · exact pos_zero
  obtain ⟨h1, h2⟩ := sumF_val hpos
  rw [e]
  refine ⟨h1, ?_⟩
  rw [h2, List.map_map]
  have d := duality fine (x := x) (s := s) k (Nat.le_refl k)
  rw [Nat.sub_self] at d
  have e2 : ((Kp379.stands w).map (val ∘ fun y => if y.s = s then (dist w x k k).getD (Kp379.index w y) (0, 1) else ((0 : Int), (1 : Int)))).sum = ((Kp379.stands w).map fun y => pr w x k k y * chance w s 0 y).sum := by
    refine sum_congr fun y _ => ?_
    show val (if y.s = s then _ else _) = pr w x k k y * (if y.s = s then 1 else 0)
    split
    · unfold pr; grind
    · rw [val_zero]; grind
  rw [e2, d]
  have e3 : ((Kp379.stands w).map fun y => pr w x k 0 y * chance w s k y).sum = ((Kp379.stands w).map fun y => (if x = y then 1 else 0) * chance w s k y).sum := by
    refine sum_congr fun y hy => ?_
    rw [pr_zero (mem_stands hy)]
    by_cases c : y = x
    · rw [if_pos c, if_pos c.symm]
    · rw [if_neg c, if_neg (fun z => c z.symm)]
  rw [e3, sum_pick hx]
/-! ### surely -/
theorem pr_nonneg {w : World} (fine : Fine w) {x : Stand} {k : Nat} : ∀ t, t ≤ k → ∀ y, Ok w y → 0 ≤ pr w x k t y
  | 0, _, y, hy => by
    rw [pr_zero hy]
    split <;> grind
  | t + 1, ht, y, hy => by
    rw [pr_succ fine (by omega) hy]
    refine sum_nonneg _ _ fun z hz => ?_
    exact Rat.mul_nonneg (pr_nonneg fine t (by omega) z (mem_stands hz)) mv_nonneg
/-- it may stand as y behind t steps -/
def may (w : World) (x : Stand) (k : Nat) : Nat → Stand → Prop
  | 0, y => y = x
  | t + 1, y => ∃ z, Ok w z ∧ may w x k t z ∧ mv w (k - t) z y ≠ 0
theorem may_is {w : World} (fine : Fine w) {x : Stand} {k : Nat} : ∀ t, t ≤ k → ∀ y, Ok w y → (pr w x k t y ≠ 0 ↔ may w x k t y)
  | 0, _, y, hy => by
    rw [pr_zero hy]
    show _ ↔ y = x
    by_cases c : y = x <;> simp [c]
  | t + 1, ht, y, hy => by
    rw [pr_succ fine (by omega) hy]
    constructor
    · intro h
      by_cases c : ∃ z, Ok w z ∧ may w x k t z ∧ mv w (k - t) z y ≠ 0
      · exact c
      · exfalso
        refine h (sum_zero _ _ fun z hz => ?_)
        have oz := mem_stands hz
        by_cases c1 : may w x k t z
        · have : mv w (k - t) z y = 0 := Decidable.byContradiction fun c2 => c ⟨z, oz, c1, c2⟩
          rw [this]
          grind
        · have : pr w x k t z = 0 := Decidable.byContradiction fun c2 => c1 ((may_is fine t (by omega) z oz).mp c2)
          rw [this]
          grind
    · rintro ⟨z, oz, h1, h2⟩ h
      have hz : z ∈ Kp379.stands w := List.mem_of_getElem? (stand_at oz)
      have h3 := sum_eq_zero (fun u hu => Rat.mul_nonneg (pr_nonneg fine t (by omega) u (mem_stands hu)) mv_nonneg) h z hz
      have h4 := (may_is fine t (by omega) z oz).mpr h1
      have h5 : pr w x k t z * mv w (k - t) z y ≠ 0 := by
        intro h6
        rcases Rat.mul_eq_zero.mp h6 with h7 | h7
        · exact h4 h7
        · exact h2 h7
      exact h5 h3
/-- surely the same self, from here on -/
def surely (w : World) (s : Nat) : Nat → Stand → Prop
  | 0, z => z.s = s
  | j + 1, z => z.s = s ∧ ∀ y, Ok w y → mv w (j + 1) z y ≠ 0 → surely w s j y
theorem surely_self {w : World} {s : Nat} : ∀ {j : Nat} {z : Stand}, surely w s j z → z.s = s
  | 0, _, h => h
  | _ + 1, _, h => h.1
theorem stays_iff {w : World} (fine : Fine w) {s p k : Nat} (hx : Ok w ⟨p, s, false⟩) : Kp381.stays w s p k = true ↔ surely w s k ⟨p, s, false⟩ := by
  have h1 : Kp381.stays w s p k = true ↔ ∀ t, t ≤ k → ∀ y, Ok w y → may w ⟨p, s, false⟩ k t y → y.s = s := by
    rw [stays_is, List.all_eq_true]
    constructor
    · intro h t ht y hy hm
      have h2 := h t (List.mem_range.mpr (by omega))
      rw [List.all_eq_true] at h2
      have h3 := h2 y (List.mem_of_getElem? (stand_at hy))
      rw [Bool.or_eq_true] at h3
      rcases h3 with z | z
      · exact eq_of_beq z
      · exfalso
        refine (may_is fine t ht y hy).mpr hm ?_
        exact (val_eq_zero (dist_pos fine _ k t ht y hy).1.1).mpr (eq_of_beq z)
    · intro h t ht
      have ht' : t ≤ k := by have := List.mem_range.mp ht; omega
      rw [List.all_eq_true]
      intro y hy
      have oy := mem_stands hy
      rw [Bool.or_eq_true]
      by_cases c : y.s = s
      · exact Or.inl (beq_iff_eq.mpr c)
      · refine Or.inr (beq_iff_eq.mpr ?_)
        have : pr w ⟨p, s, false⟩ k t y = 0 := Decidable.byContradiction fun c2 => c (h t ht' y oy ((may_is fine t ht' y oy).mp c2))
        exact (val_eq_zero (dist_pos fine _ k t ht' y oy).1.1).mp this
  rw [h1]
  constructor
  · intro h
    -- from the end back
    have back : ∀ j, j ≤ k → ∀ y, Ok w y → may w ⟨p, s, false⟩ k (k - j) y → surely w s j y := by
      intro j
      induction j with
      | zero => exact fun _ y hy hm => h k (Nat.le_refl _) y hy (by simpa using hm)
      | succ j ih =>
        intro hj y hy hm
        refine ⟨h _ (by omega) y hy hm, fun u hu hmv => ih (by omega) u hu ?_⟩
        have e : k - j = k - (j + 1) + 1 := by omega
        rw [e]
        refine ⟨y, hy, hm, ?_⟩
        have e2 : k - (k - (j + 1)) = j + 1 := by omega
        rw [e2]
        exact hmv
    exact back k (Nat.le_refl _) _ hx (by rw [Nat.sub_self]; rfl)
  · intro h
    have fwd : ∀ t, t ≤ k → ∀ y, Ok w y → may w ⟨p, s, false⟩ k t y → surely w s (k - t) y := by
      intro t
      induction t with
      | zero =>
        intro _ y _ hm
        rw [show y = ⟨p, s, false⟩ from hm]
        exact h
      | succ t ih =>
        rintro ht y hy ⟨z, oz, hm, hmv⟩
        have h2 := ih (by omega) z oz hm
        have e : k - t = k - (t + 1) + 1 := by omega
        rw [e] at h2 hmv
        exact h2.2 y hy hmv
    exact fun t ht y hy hm => surely_self (fwd t ht y hy hm)
/-- what may come of a step -/
theorem mv_ne {w : World} (fine : Fine w) {j : Nat} {z y : Stand} (_hz : Ok w z) : mv w j z y ≠ 0 ↔ match Kp379.does w z j with
    | none => z = y
    | some a => Kp379.behind z (Kp379.actAt w z.p a) y.p = y ∧ (Kp379.actAt w z.p a).to.getD y.p 0 ≠ 0 := by
  unfold mv
  cases e : Kp379.does w z j with
  | none =>
    simp only
    by_cases c : z = y <;> simp [c]
  | some a =>
    simp only
    obtain ⟨ft, _⟩ := fine z j a _hz e
    by_cases c : Kp379.behind z (Kp379.actAt w z.p a) y.p = y ∧ (Kp379.actAt w z.p a).to.getD y.p 0 ≠ 0
    · rw [if_pos c]
      refine ⟨fun _ => c, fun _ h => ?_⟩
      have h1 : ((Kp346.total (Kp379.actAt w z.p a).to : Nat) : Rat) ≠ 0 := by
        simp
        omega
      have h2 : (((Kp379.actAt w z.p a).to.getD y.p 0 : Nat) : Rat) = 0 := by grind
      have h3 : (Kp379.actAt w z.p a).to.getD y.p 0 = 0 := by exact_mod_cast h2
      exact c.2 h3
    · rw [if_neg c]
      exact ⟨fun h => absurd rfl h, fun h => absurd h c⟩
end CI
/-! Call by call: its numbers, and what the specification answers, as lists of numbers. -/
namespace CI
open Kp379 (Stand)
abbrev Ns := Kp381Neutral.step
/-! ### the numbers of a call -/
def nat1 (z : Int) : Prop := 0 ≤ z ∧ z ≤ 4294967295
theorem nat1_of {z : Int} (h : PyInside.within 0 4294967295 z = true) : ∃ a : Nat, z = (a : Int) := by
  simp only [PyInside.within, Bool.and_eq_true, decide_eq_true_eq] at h
  exact ⟨z.toNat, by omega⟩
theorem no_more {α : Type} {l : List α} (h : decide (l.length ≤ 0) = true) : l = [] := List.length_eq_zero_iff.mp (by simpa using h)
/-- numbers within their bounds, then a row -/
theorem fits_at {k : Nat} {gs : List Int} {a : List (Int × Int)} {m1 m2 : Nat} {lo hi : Int} {t : List (Int × Int × Nat × Nat) × (Nat × Nat × Nat × Int × Int × Nat × Nat)} (hf : PyKp381.form (k : Int) = some (a, (m1, m2, lo, hi), t)) (h : PyKp381.fits [(k : Int) :: gs] = true) :
    a.length ≤ gs.length ∧ PyInside.each a gs = true ∧ (gs.drop a.length).length ≤ m2 ∧ (gs.drop a.length).all (PyInside.within lo hi) = true := by
  obtain ⟨r, k0, n1, n2, llo, lhi, l1, l2⟩ := t
  unfold PyKp381.fits at h
  simp only [hf, Bool.and_eq_true, decide_eq_true_eq] at h
  exact ⟨h.1.1.1.1.1.1.1.1.1, h.1.1.1.1.1.1.1.1.2, h.1.1.1.1.1.1.2, h.1.1.1.1.1.2⟩
abbrev N1 : Int × Int := (0, 4294967295)
theorem sh0 {gs : List Int} (h : ([] : List (Int × Int)).length ≤ gs.length ∧ PyInside.each [] gs = true ∧ (gs.drop 0).length ≤ 0 ∧ (gs.drop 0).all (PyInside.within 0 0) = true) : gs = [] := List.length_eq_zero_iff.mp (by have := h.2.2.1; simpa using this)
theorem sh1 {gs : List Int} {m2 : Nat} {lo hi : Int} (h : [N1].length ≤ gs.length ∧ PyInside.each [N1] gs = true ∧ (gs.drop 1).length ≤ m2 ∧ (gs.drop 1).all (PyInside.within lo hi) = true) :
    ∃ (a : Nat) (r : List Int), gs = (a : Int) :: r ∧ r.length ≤ m2 ∧ r.all (PyInside.within lo hi) = true := by
  match gs, h with
  | [], h => exact absurd h.1 (by decide)
  | x :: r, h =>
    have h2 := h.2.1
    simp only [PyInside.each, Bool.and_true] at h2
    obtain ⟨a, rfl⟩ := nat1_of h2
    exact ⟨a, r, rfl, h.2.2.1, h.2.2.2⟩
theorem sh2 {gs : List Int} {m2 : Nat} {lo hi : Int} (h : [N1, N1].length ≤ gs.length ∧ PyInside.each [N1, N1] gs = true ∧ (gs.drop 2).length ≤ m2 ∧ (gs.drop 2).all (PyInside.within lo hi) = true) :
    ∃ (a b : Nat) (r : List Int), gs = (a : Int) :: (b : Int) :: r ∧ r.length ≤ m2 ∧ r.all (PyInside.within lo hi) = true := by
  match gs, h with
  | [], h => exact absurd h.1 (by decide)
  | [_], h => exact absurd h.1 (by simp)
  | x :: y :: r, h =>
    have h2 := h.2.1
    simp only [PyInside.each, Bool.and_true, Bool.and_eq_true] at h2
    obtain ⟨a, rfl⟩ := nat1_of h2.1
    obtain ⟨b, rfl⟩ := nat1_of h2.2
    exact ⟨a, b, r, rfl, h.2.2.1, h.2.2.2⟩
theorem sh3 {gs : List Int} {m2 : Nat} {lo hi : Int} (h : [N1, N1, N1].length ≤ gs.length ∧ PyInside.each [N1, N1, N1] gs = true ∧ (gs.drop 3).length ≤ m2 ∧ (gs.drop 3).all (PyInside.within lo hi) = true) :
    ∃ (a b c : Nat) (r : List Int), gs = (a : Int) :: (b : Int) :: (c : Int) :: r ∧ r.length ≤ m2 ∧ r.all (PyInside.within lo hi) = true := by
  match gs, h with
  | [], h => exact absurd h.1 (by decide)
  | [_], h => exact absurd h.1 (by simp)
  | [_, _], h => exact absurd h.1 (by simp)
  | x :: y :: z :: r, h =>
    have h2 := h.2.1
    simp only [PyInside.each, Bool.and_true, Bool.and_eq_true] at h2
    obtain ⟨a, rfl⟩ := nat1_of h2.1
    obtain ⟨b, rfl⟩ := nat1_of h2.2.1
    obtain ⟨c, rfl⟩ := nat1_of h2.2.2
    exact ⟨a, b, c, r, rfl, h.2.2.1, h.2.2.2⟩
theorem sh4 {gs : List Int} {m2 : Nat} {lo hi : Int} (h : [N1, N1, N1, N1].length ≤ gs.length ∧ PyInside.each [N1, N1, N1, N1] gs = true ∧ (gs.drop 4).length ≤ m2 ∧ (gs.drop 4).all (PyInside.within lo hi) = true) :
    ∃ (a b c d : Nat) (r : List Int), gs = (a : Int) :: (b : Int) :: (c : Int) :: (d : Int) :: r ∧ r.length ≤ m2 ∧ r.all (PyInside.within lo hi) = true := by
  match gs, h with
  | [], h => exact absurd h.1 (by decide)
  | [_], h => exact absurd h.1 (by simp)
  | [_, _], h => exact absurd h.1 (by simp)
  | [_, _, _], h => exact absurd h.1 (by simp)
  | x :: y :: z :: t :: r, h =>
    have h2 := h.2.1
    simp only [PyInside.each, Bool.and_true, Bool.and_eq_true] at h2
    obtain ⟨a, rfl⟩ := nat1_of h2.1
    obtain ⟨b, rfl⟩ := nat1_of h2.2.1
    obtain ⟨c, rfl⟩ := nat1_of h2.2.2.1
    obtain ⟨d, rfl⟩ := nat1_of h2.2.2.2
    exact ⟨a, b, c, d, r, rfl, h.2.2.1, h.2.2.2⟩
theorem sh5 {gs : List Int} {m2 : Nat} {lo hi : Int} (h : [N1, N1, N1, N1, N1].length ≤ gs.length ∧ PyInside.each [N1, N1, N1, N1, N1] gs = true ∧ (gs.drop 5).length ≤ m2 ∧ (gs.drop 5).all (PyInside.within lo hi) = true) :
    ∃ (a b c d e : Nat) (r : List Int), gs = (a : Int) :: (b : Int) :: (c : Int) :: (d : Int) :: (e : Int) :: r ∧ r.length ≤ m2 ∧ r.all (PyInside.within lo hi) = true := by
  match gs, h with
  | [], h => exact absurd h.1 (by decide)
  | [_], h => exact absurd h.1 (by simp)
  | [_, _], h => exact absurd h.1 (by simp)
  | [_, _, _], h => exact absurd h.1 (by simp)
  | [_, _, _, _], h => exact absurd h.1 (by simp)
  | x :: y :: z :: t :: u :: r, h =>
    have h2 := h.2.1
    simp only [PyInside.each, Bool.and_true, Bool.and_eq_true] at h2
    obtain ⟨a, rfl⟩ := nat1_of h2.1
    obtain ⟨b, rfl⟩ := nat1_of h2.2.1
    obtain ⟨c, rfl⟩ := nat1_of h2.2.2.1
    obtain ⟨d, rfl⟩ := nat1_of h2.2.2.2.1
    obtain ⟨e, rfl⟩ := nat1_of h2.2.2.2.2
    exact ⟨a, b, c, d, e, r, rfl, h.2.2.1, h.2.2.2⟩
theorem nil_of {r : List Int} (h : r.length ≤ 0) : r = [] := List.length_eq_zero_iff.mp (by omega)
/-! ### what numbers each call has -/
section
variable {gs : List Int}
theorem in0 (h : PyKp381.fits [((0 : Nat) : Int) :: gs] = true) : ∃ a b : Nat, gs = [(a : Int), (b : Int)] := by
  obtain ⟨a, b, r, rfl, h1, _⟩ := sh2 (fits_at rfl h)
  exact ⟨a, b, by rw [nil_of h1]⟩
theorem in1 (h : PyKp381.fits [((1 : Nat) : Int) :: gs] = true) : ∃ (a : Nat) (r : List Int), gs = (a : Int) :: r ∧ r.length ≤ 9 := by
  obtain ⟨a, r, rfl, h1, _⟩ := sh1 (fits_at rfl h)
  exact ⟨a, r, rfl, h1⟩
theorem in2 (h : PyKp381.fits [((2 : Nat) : Int) :: gs] = true) : ∃ a b : Nat, gs = [(a : Int), (b : Int)] := by
  obtain ⟨a, b, r, rfl, h1, _⟩ := sh2 (fits_at rfl h)
  exact ⟨a, b, by rw [nil_of h1]⟩
theorem in3 (h : PyKp381.fits [((3 : Nat) : Int) :: gs] = true) : ∃ a b c : Nat, gs = [(a : Int), (b : Int), (c : Int)] := by
  obtain ⟨a, b, c, r, rfl, h1, _⟩ := sh3 (fits_at rfl h)
  exact ⟨a, b, c, by rw [nil_of h1]⟩
theorem in4 (h : PyKp381.fits [((4 : Nat) : Int) :: gs] = true) : ∃ a b c : Nat, gs = [(a : Int), (b : Int), (c : Int)] := by
  obtain ⟨a, b, c, r, rfl, h1, _⟩ := sh3 (fits_at rfl h)
  exact ⟨a, b, c, by rw [nil_of h1]⟩
theorem in5 (h : PyKp381.fits [((5 : Nat) : Int) :: gs] = true) : ∃ a : Nat, gs = [(a : Int)] := by
  obtain ⟨a, r, rfl, h1, _⟩ := sh1 (fits_at rfl h)
  exact ⟨a, by rw [nil_of h1]⟩
theorem in6 (h : PyKp381.fits [((6 : Nat) : Int) :: gs] = true) : ∃ a b c : Nat, gs = [(a : Int), (b : Int), (c : Int)] := by
  obtain ⟨a, b, c, r, rfl, h1, _⟩ := sh3 (fits_at rfl h)
  exact ⟨a, b, c, by rw [nil_of h1]⟩
theorem in7 (h : PyKp381.fits [((7 : Nat) : Int) :: gs] = true) : gs = [] := sh0 (fits_at rfl h)
theorem in8 (h : PyKp381.fits [((8 : Nat) : Int) :: gs] = true) : ∃ a b c d : Nat, gs = [(a : Int), (b : Int), (c : Int), (d : Int)] := by
  obtain ⟨a, b, c, d, r, rfl, h1, _⟩ := sh4 (fits_at rfl h)
  exact ⟨a, b, c, d, by rw [nil_of h1]⟩
theorem in9 (h : PyKp381.fits [((9 : Nat) : Int) :: gs] = true) : ∃ a b c d : Nat, gs = [(a : Int), (b : Int), (c : Int), (d : Int)] := by
  obtain ⟨a, b, c, d, r, rfl, h1, _⟩ := sh4 (fits_at rfl h)
  exact ⟨a, b, c, d, by rw [nil_of h1]⟩
theorem in10 (h : PyKp381.fits [((10 : Nat) : Int) :: gs] = true) : ∃ a b c d e : Nat, gs = [(a : Int), (b : Int), (c : Int), (d : Int), (e : Int)] := by
  obtain ⟨a, b, c, d, e, r, rfl, h1, _⟩ := sh5 (fits_at rfl h)
  exact ⟨a, b, c, d, e, by rw [nil_of h1]⟩
theorem in11 (h : PyKp381.fits [((11 : Nat) : Int) :: gs] = true) : gs = [] := sh0 (fits_at rfl h)
theorem in12 (h : PyKp381.fits [((12 : Nat) : Int) :: gs] = true) : ∃ a b : Nat, gs = [(a : Int), (b : Int)] := by
  obtain ⟨a, b, r, rfl, h1, _⟩ := sh2 (fits_at rfl h)
  exact ⟨a, b, by rw [nil_of h1]⟩
theorem in13 (h : PyKp381.fits [((13 : Nat) : Int) :: gs] = true) : ∃ a b : Nat, gs = [(a : Int), (b : Int)] := by
  obtain ⟨a, b, r, rfl, h1, _⟩ := sh2 (fits_at rfl h)
  exact ⟨a, b, by rw [nil_of h1]⟩
theorem nats_of {r : List Int} (h : r.all (PyInside.within 0 4294967295) = true) : ∃ l : List Nat, r = l.map fun (m : Nat) => (m : Int) := by
  induction r with
  | nil => exact ⟨[], rfl⟩
  | cons x r ih =>
    rw [List.all_cons, Bool.and_eq_true] at h
    obtain ⟨a, rfl⟩ := nat1_of h.1
    obtain ⟨l, rfl⟩ := ih h.2
    exact ⟨a :: l, rfl⟩
theorem in14 (h : PyKp381.fits [((14 : Nat) : Int) :: gs] = true) : ∃ (a : Nat) (l : List Nat), gs = (a : Int) :: l.map (fun (m : Nat) => (m : Int)) ∧ l.length ≤ 6 := by
  obtain ⟨a, r, rfl, h1, h2⟩ := sh1 (fits_at rfl h)
  obtain ⟨l, rfl⟩ := nats_of h2
  exact ⟨a, l, rfl, by simpa using h1⟩
theorem in15 (h : PyKp381.fits [((15 : Nat) : Int) :: gs] = true) : ∃ a : Nat, gs = [(a : Int)] := by
  obtain ⟨a, r, rfl, h1, _⟩ := sh1 (fits_at rfl h)
  exact ⟨a, by rw [nil_of h1]⟩
theorem in16 (h : PyKp381.fits [((16 : Nat) : Int) :: gs] = true) : gs = [] := sh0 (fits_at rfl h)
theorem in17 (h : PyKp381.fits [((17 : Nat) : Int) :: gs] = true) : gs = [] := sh0 (fits_at rfl h)
theorem in18 (h : PyKp381.fits [((18 : Nat) : Int) :: gs] = true) : ∃ a : Nat, gs = [(a : Int)] := by
  obtain ⟨a, r, rfl, h1, _⟩ := sh1 (fits_at rfl h)
  exact ⟨a, by rw [nil_of h1]⟩
theorem in19 (h : PyKp381.fits [((19 : Nat) : Int) :: gs] = true) : ∃ a b : Nat, gs = [(a : Int), (b : Int)] := by
  obtain ⟨a, b, r, rfl, h1, _⟩ := sh2 (fits_at rfl h)
  exact ⟨a, b, by rw [nil_of h1]⟩
theorem in20 (h : PyKp381.fits [((20 : Nat) : Int) :: gs] = true) : ∃ a b c : Nat, gs = [(a : Int), (b : Int), (c : Int)] := by
  obtain ⟨a, b, c, r, rfl, h1, _⟩ := sh3 (fits_at rfl h)
  exact ⟨a, b, c, by rw [nil_of h1]⟩
theorem in21 (h : PyKp381.fits [((21 : Nat) : Int) :: gs] = true) : ∃ (a b c d : Nat) (r : List Int), gs = (a : Int) :: (b : Int) :: (c : Int) :: (d : Int) :: r ∧ r.length ≤ 4 := by
  obtain ⟨a, b, c, d, r, rfl, h1, _⟩ := sh4 (fits_at rfl h)
  exact ⟨a, b, c, d, r, rfl, h1⟩
theorem in22 (h : PyKp381.fits [((22 : Nat) : Int) :: gs] = true) : ∃ a : Nat, gs = [(a : Int)] := by
  obtain ⟨a, r, rfl, h1, _⟩ := sh1 (fits_at rfl h)
  exact ⟨a, by rw [nil_of h1]⟩
theorem in23 (h : PyKp381.fits [((23 : Nat) : Int) :: gs] = true) : ∃ a : Nat, gs = [(a : Int)] := by
  obtain ⟨a, r, rfl, h1, _⟩ := sh1 (fits_at rfl h)
  exact ⟨a, by rw [nil_of h1]⟩
theorem in24 (h : PyKp381.fits [((24 : Nat) : Int) :: gs] = true) : ∃ a b c d : Nat, gs = [(a : Int), (b : Int), (c : Int), (d : Int)] := by
  obtain ⟨a, b, c, d, r, rfl, h1, _⟩ := sh4 (fits_at rfl h)
  exact ⟨a, b, c, d, by rw [nil_of h1]⟩
theorem in25 (h : PyKp381.fits [((25 : Nat) : Int) :: gs] = true) : gs = [] := sh0 (fits_at rfl h)
end
end CI
/-! Entry's __init__. -/
namespace CI
open PySem PySem.Spec PyProof.Rows L2
open Evl (Ex fresh_back)
open Kp379 (Stand)
section
variable {P : Program} {w : World} {K : PySem.W.Frag} {mg : Str → Option Value} {base : Heap} {n : Nm}
/-! ### Entry's __init__ -/
def sp_Entry_init (n : Nm) : Sp := fun vs H Q _ => ∃ (p dx pb pe pp : Addr) (a k : Int), vs = [.ref p, .int a, .int k, .ref pb, .ref pe, .ref pp] ∧ H p = some (.ins n.C_Entry dx []) ∧
  ∀ H' : Hp, H' p = some (.ins n.C_Entry dx [("number", .int a), ("steps", .int k), ("before", .ref pb), ("behind", .ref pe), ("pays", .ref pp)]) → (∀ b o, H b = some o → b ≠ p → H' b = some o) → Q .non H'
theorem ok_Entry_init (D : Ds n K mg) : FnOk P w K mg base CX0 1 n.f_Entry n.fd_Entry P_Entry___init__ (sp_Entry_init n) := by
  refine D.c_Entry.F.ok sc_Entry___init__ (fun vs H Q E h => ?_) (fun cdv A outer s H vs Q E hr h => ?_)
  · obtain ⟨p, dx, pb, pe, pp, a, k, rfl, _⟩ := h
    rfl
  · obtain ⟨p, dx, pb, pe, pp, a, k, rfl, hp, kQ⟩ := h
    refine ⟨_, (pss_cons (ps_fld (pv 0) (pv 1) rfl)
      (pss_cons (ps_fld (pv 0) (pv 2) rfl)
      (pss_cons (ps_fld (pv 0) (pv 3) rfl)
      (pss_cons (ps_fld (pv 0) (pv 4) rfl)
      (pss_one (ps_fld (pv 0) (pv 5) rfl)))))), ?_⟩
    refine ⟨_, rfl, _, rfl, p, n.C_Entry, dx, _, rfl, hp, D.c_Entry.cl, D.Entry_number, (by show 0 < 1000; decide), ?_⟩
    refine ⟨_, rfl, _, rfl, p, n.C_Entry, dx, _, rfl, upd_same, D.c_Entry.cl, D.Entry_steps, (by show 1 < 1000; decide), ?_⟩
    refine ⟨_, rfl, _, rfl, p, n.C_Entry, dx, _, rfl, upd_same, D.c_Entry.cl, D.Entry_before, Nat.lt_of_le_of_lt (putF_small (putF_small (m := 0) (Nat.le_refl _))) (by decide), ?_⟩
    refine ⟨_, rfl, _, rfl, p, n.C_Entry, dx, _, rfl, upd_same, D.c_Entry.cl, D.Entry_behind, Nat.lt_of_le_of_lt (putF_small (putF_small (putF_small (m := 0) (Nat.le_refl _)))) (by decide), ?_⟩
    refine ⟨_, rfl, _, rfl, p, n.C_Entry, dx, _, rfl, upd_same, D.c_Entry.cl, D.Entry_pays, Nat.lt_of_le_of_lt (putF_small (putF_small (putF_small (putF_small (m := 0) (Nat.le_refl _))))) (by decide), ?_⟩
    refine kQ _ ?_ fun b o e hb => by
      rw [upd_ne hb, upd_ne hb, upd_ne hb, upd_ne hb, upd_ne hb]
      exact e
    refine Eq.trans upd_same (congrArg (fun q => some (HO.ins n.C_Entry dx q)) ?_)
    have e1 : putF "steps" (V.int k) [(("number" : Str), V.int a)] = [(("number" : Str), V.int a), ("steps", V.int k)] := (put_past (by decide +kernel)).trans rfl
    have e2 : putF "before" (V.ref pb) [(("number" : Str), V.int a), ("steps", V.int k)] = [(("number" : Str), V.int a), ("steps", V.int k), ("before", V.ref pb)] := (put_past (by decide +kernel)).trans (congrArg _ ((put_past (by decide +kernel)).trans rfl))
    have e3 : putF "behind" (V.ref pe) [(("number" : Str), V.int a), ("steps", V.int k), ("before", V.ref pb)] = [(("number" : Str), V.int a), ("steps", V.int k), ("before", V.ref pb), ("behind", V.ref pe)] := (put_past (by decide +kernel)).trans (congrArg _ ((put_past (by decide +kernel)).trans (congrArg _ ((put_past (by decide +kernel)).trans rfl))))
    have e4 : putF "pays" (V.ref pp) [(("number" : Str), V.int a), ("steps", V.int k), ("before", V.ref pb), ("behind", V.ref pe)] = [(("number" : Str), V.int a), ("steps", V.int k), ("before", V.ref pb), ("behind", V.ref pe), ("pays", V.ref pp)] := (put_past (by decide +kernel)).trans (congrArg _ ((put_past (by decide +kernel)).trans (congrArg _ ((put_past (by decide +kernel)).trans (congrArg _ ((put_past (by decide +kernel)).trans rfl))))))
    show putF "pays" (V.ref pp) (putF "behind" (V.ref pe) (putF "before" (V.ref pb) (putF "steps" (V.int k) [(("number" : Str), V.int a)]))) = _
    rw [e1, e2, e3, e4]
theorem made_entry {n : Nm} {H : Hp} {pb pe pp x dx : Addr} {e : Kp381.Entry} {Q : VK} {E : XK} (hb : H pb = some (.tup (standV e.ahead))) (he : H pe = some (.tup (standV e.behind_))) (hp : H pp = some (.lst (e.pays.map V.int))) (nx : H x = none) (nd : H dx = none) (_ne : dx ≠ x)
    (k : ∀ H2, Ex H H2 → IsEntry n e (.ref x) H2 → Q (.ref x) H2) : sp_Entry_init n [.ref x, .int (e.a : Int), .int (e.k : Int), .ref pb, .ref pe, .ref pp] (upd (upd H dx (.own x)) x (.ins n.C_Entry dx [])) (fun v H2 => v = .non ∧ Q (.ref x) H2) E := by
  refine ⟨x, dx, pb, pe, pp, _, _, rfl, upd_same, fun H' h1 h2 => ⟨rfl, ?_⟩⟩
  have e' : Ex H H' := Same.made nx nd h2
  exact k H' e' ⟨x, dx, pb, pe, pp, rfl, h1, e' _ _ hb, e' _ _ he, e' _ _ hp⟩
end
end CI
/-! What the specification answers, call by call. -/
namespace CI
open Kp379 (Stand)
theorem fine_of {w : Kp379.World} (ww : WfW w) : Fine w := by
  intro z j a hz h
  cases j with
  | zero =>
    have : Kp379.does w z 0 = none := by
      show (ent w (Kp379.rowAt w 0) z).1 = none
      rw [ent_zero hz]
    rw [this] at h
    cases h
  | succ j =>
    rw [does_is hz] at h
    unfold step1 at h
    cases hb : Kp379.bestIn ((Kp379.actsAt w z.p).map fun a => Kp379.bring w (Kp379.rowAt w j) z a z.s) with
    | none =>
      rw [hb] at h
      cases h
    | some b =>
      rw [hb] at h
      have e : b.1 = a := Option.some.inj h
      subst e
      have hne : (Kp379.actsAt w z.p).map (fun a => Kp379.bring w (Kp379.rowAt w j) z a z.s) ≠ [] := by
        intro c
        rw [c] at hb
        cases hb
      obtain ⟨b', hb', hlt, _⟩ := bestIn_some _ hne
      have hbb : b' = b := Option.some.inj (hb'.symm.trans hb)
      subst hbb
      rw [List.length_map] at hlt
      obtain ⟨g1, g2, g3⟩ := ww.at_ hz.1
      have ga : (Kp379.actsAt w z.p)[b'.1]? = some (Kp379.actAt w z.p b'.1) := by
        unfold Kp379.actAt
        rw [List.getD_eq_getElem?_getD, List.getElem?_eq_getElem hlt]
        rfl
      have wa := g3 _ (List.mem_of_getElem? ga)
      exact ⟨wa.wt, fun q hq => behind_ok hz wa hq⟩
/-- an act that is done is one of those that are there -/
theorem does_lt {w : Kp379.World} {z : Stand} {j a : Nat} (hz : OkS w z) (h : Kp379.does w z j = some a) : a < (Kp379.actsAt w z.p).length := by
  cases j with
  | zero =>
    have : Kp379.does w z 0 = none := by
      show (ent w (Kp379.rowAt w 0) z).1 = none
      rw [ent_zero hz]
    rw [this] at h
    cases h
  | succ j =>
    rw [does_is hz] at h
    unfold step1 at h
    cases hb : Kp379.bestIn ((Kp379.actsAt w z.p).map fun a => Kp379.bring w (Kp379.rowAt w j) z a z.s) with
    | none =>
      rw [hb] at h
      cases h
    | some b =>
      rw [hb] at h
      have e : b.1 = a := Option.some.inj h
      subst e
      have hne : (Kp379.actsAt w z.p).map (fun a => Kp379.bring w (Kp379.rowAt w j) z a z.s) ≠ [] := by
        intro c
        rw [c] at hb
        cases hb
      obtain ⟨b', hb', hlt, _⟩ := bestIn_some _ hne
      have hbb : b' = b := Option.some.inj (hb'.symm.trans hb)
      subst hbb
      rw [List.length_map] at hlt
      exact hlt
/-- where there are acts, with steps left, one is done; where there's none, none -/
theorem does_some {w : Kp379.World} {z : Stand} {j : Nat} (hz : OkS w z) (hj : 1 ≤ j) : Kp379.does w z j = none ↔ Kp379.actsAt w z.p = [] := by
  have ej : j = j - 1 + 1 := by omega
  rw [ej, does_is hz]
  unfold step1
  constructor
  · intro h
    rcases hac : Kp379.actsAt w z.p with _ | ⟨a, r⟩
    · rfl
    · exfalso
      obtain ⟨b, hb, _⟩ := bestIn_some ((Kp379.actsAt w z.p).map fun a => Kp379.bring w (Kp379.rowAt w (j - 1)) z a z.s) (by rw [hac]; simp)
      rw [hb] at h
      cases h
  · intro h
    rw [h]
    rfl
section
variable {h : Kp381.House}
theorem ns_begin (st : Kp381.State) (a b : Nat) : Ns st [[((0 : Nat) : Int), (a : Int), (b : Int)]] = beginTo st a b := by
  show (let y := (if a < 2 ∨ 4 < a ∨ b < 1 ∨ 3 < b then (st, Kp381.say (-22)) else (some ⟨⟨a, b, List.replicate a []⟩, ⟨0, 0, false⟩, [], []⟩, Kp381.say 0) : Kp381.State × Kp381.Ans); (y.1, y.2.num :: y.2.nums)) = _
  unfold beginTo
  by_cases c : a < 2 ∨ 4 < a ∨ b < 1 ∨ 3 < b
  · rw [if_pos c, if_pos (by
      simp only [Bool.or_eq_true, Bool.not_eq_true', Bool.and_eq_false_iff, decide_eq_false_iff_not]
      omega)]
    rfl
  · rw [if_neg c, if_neg (by
      simp only [Bool.or_eq_true, Bool.not_eq_true', Bool.and_eq_false_iff, decide_eq_false_iff_not]
      omega)]
    rfl
theorem not_ps {w : Kp379.World} {p s : Nat} : (Kp379.isPlace w p = false ∨ Kp379.isSelf w s = false) ↔ (!Kp379.isPlace w p || !Kp379.isSelf w s) = true := by
  cases Kp379.isPlace w p <;> cases Kp379.isSelf w s <;> simp
theorem ns_stand (p s l : Nat) : Ns (some h) [[((6 : Nat) : Int), (p : Int), (s : Int), (l : Int)]] = standTo h p s l := by
  show (let y := (if Kp379.isPlace h.world p = false ∨ Kp379.isSelf h.world s = false then (some h, Kp381.say (-2)) else if 1 < l then (some h, Kp381.say (-22)) else (some { h with now := ⟨p, s, l == 1⟩ }, ⟨0, Kp381.standRow h.now⟩) : Kp381.State × Kp381.Ans); (y.1, y.2.num :: y.2.nums)) = _
  unfold standTo
  by_cases c : Kp379.isPlace h.world p = false ∨ Kp379.isSelf h.world s = false
  · rw [if_pos c, if_pos (not_ps.mp c)]
    rfl
  · rw [if_neg c, if_neg (fun z => c (not_ps.mpr z))]
    by_cases d : 1 < l
    · rw [if_pos d, if_pos d]
      rfl
    · rw [if_neg d, if_neg d]
      rfl
theorem ns_who : Ns (some h) [[((7 : Nat) : Int)]] = (some h, standOut h.now) := rfl
theorem out_of {w : Kp379.World} {p s : Nat} {bad : Prop} [Decidable bad] {b : Bool} (hb : bad ↔ b = true) {x : Kp379.Ans} {o : List Int} (hx : x.num :: x.nums = o) :
    (if Kp379.isPlace w p = false ∨ Kp379.isSelf w s = false then Kp379.say (-2) else if bad then Kp379.say (-22) else x).num :: (if Kp379.isPlace w p = false ∨ Kp379.isSelf w s = false then Kp379.say (-2) else if bad then Kp379.say (-22) else x).nums = out2 w p s b o := by
  unfold out2
  by_cases c : Kp379.isPlace w p = false ∨ Kp379.isSelf w s = false
  · rw [if_pos c, if_pos (not_ps.mp c)]
    rfl
  · rw [if_neg c, if_neg (fun z => c (not_ps.mpr z))]
    by_cases d : bad
    · rw [if_pos d, if_pos (hb.mp d)]
      rfl
    · rw [if_neg d, if_neg (fun z => d (hb.mpr z))]
      exact hx
theorem ns_does (p s l k : Nat) : Ns (some h) [[((8 : Nat) : Int), (p : Int), (s : Int), (l : Int), (k : Int)]] = (some h, doesOut h.world p s l k) := by
  refine Prod.ext rfl ?_
  refine out_of (bad := 1 < l ∨ Kp379.LONG < k ∨ k < 1) ?_ ?_
  · simp only [Bool.or_eq_true, Bool.not_eq_true', Bool.and_eq_false_iff, decide_eq_true_eq, decide_eq_false_iff_not, Kp379.LONG]
    omega
  · show (match Kp379.does h.world ⟨p, s, l == 1⟩ k with | none => Kp379.say (-33) | some a => Kp379.say (a : Nat)).num :: (match Kp379.does h.world ⟨p, s, l == 1⟩ k with | none => Kp379.say (-33) | some a => Kp379.say (a : Nat)).nums = _
    cases Kp379.does h.world ⟨p, s, l == 1⟩ k <;> rfl
theorem ns_lights (p s l k : Nat) : Ns (some h) [[((9 : Nat) : Int), (p : Int), (s : Int), (l : Int), (k : Int)]] = (some h, lightsOut h.world p s l k) := by
  refine Prod.ext rfl ?_
  refine out_of (bad := 1 < l ∨ Kp379.LONG < k ∨ k < 0) ?_ ?_
  · simp only [Bool.or_eq_true, decide_eq_true_eq, Kp379.LONG]
    omega
  · show ((((List.range h.world.v).map fun u => Kp379.worth h.world u ⟨p, s, l == 1⟩ k).length : Nat) : Int) :: _ = _
    rw [List.length_map, List.length_range]
    rfl
theorem ns_cost (s t p l k : Nat) : Ns (some h) [[((10 : Nat) : Int), (s : Int), (t : Int), (p : Int), (l : Int), (k : Int)]] = (some h, costOut h.world s t p l k) := by
  refine Prod.ext rfl ?_
  show (if Kp380.ok2 h.world s t p = false then Kp380.say (-2) else if 1 < l ∨ Kp379.LONG < k ∨ k < 0 then Kp380.say (-22) else Kp380.frRow (Kp380.cost h.world s t p (l == 1) k)).num :: (if Kp380.ok2 h.world s t p = false then Kp380.say (-2) else if 1 < l ∨ Kp379.LONG < k ∨ k < 0 then Kp380.say (-22) else Kp380.frRow (Kp380.cost h.world s t p (l == 1) k)).nums = _
  unfold costOut
  have e1 : Kp380.ok2 h.world s t p = false ↔ (!Kp379.isSelf h.world s || (!Kp379.isSelf h.world t || !Kp379.isPlace h.world p)) = true := by
    unfold Kp380.ok2
    cases Kp379.isSelf h.world s <;> cases Kp379.isSelf h.world t <;> cases Kp379.isPlace h.world p <;> simp
  have e2 : (1 < l ∨ Kp379.LONG < k ∨ k < 0) ↔ (decide (1 < l) || decide (4 < k)) = true := by
    simp only [Bool.or_eq_true, decide_eq_true_eq, Kp379.LONG]
    omega
  by_cases c : Kp380.ok2 h.world s t p = false
  · rw [if_pos c, if_pos (e1.mp c)]
    rfl
  · rw [if_neg c, if_neg (fun z => c (e1.mpr z))]
    by_cases d : 1 < l ∨ Kp379.LONG < k ∨ k < 0
    · rw [if_pos d, if_pos (e2.mp d)]
      rfl
    · rw [if_neg d, if_neg (fun z => d (e2.mpr z))]
      rfl
theorem ns_lonely : Ns (some h) [[((11 : Nat) : Int)]] = (some h, lonelyOut h.world) := rfl
end
end CI
/-! How likely it is who in the end. -/
namespace CI
open PySem PySem.Spec PyProof.Rows L2
open Evl (Ex fresh_back)
open Kp340 (Fr fr)
open Kp379 (Stand)
/-- one step more -/
def likeStep (wd : Kp379.World) (r : Kp379.Row) (G : Stand → List Fr) (x : Stand) : List Fr := match (step1 wd r x).1 with
  | none => G x
  | some a => (List.range wd.v).map fun u => meanF wd G x (Kp379.actAt wd x.p a) u
def like0 (wd : Kp379.World) (x : Stand) : List Fr := (List.range wd.v).map fun u => if u = x.s then ((1 : Int), (1 : Int)) else (0, 1)
/-- for each self, how likely it is that one behind so many steps -/
def like (wd : Kp379.World) : Nat → Stand → List Fr
  | 0 => like0 wd
  | k + 1 => likeStep wd (Kp379.rowAt wd k) (like wd k)
theorem mapD {α : Type} {f : Nat → α} {d : α} {m u : Nat} (h : u < m) : ((List.range m).map f).getD u d = f u := by
  rw [List.getD_eq_getElem?_getD, List.getElem?_map, List.getElem?_range h]
  rfl
theorem done_wf {wd : Kp379.World} (ww : WfW wd) {r : Kp379.Row} {x : Stand} (ox : OkS wd x) {a : Nat} (h : (step1 wd r x).1 = some a) : WfAct wd (Kp379.actAt wd x.p a) := by
  by_cases c : Kp379.actsAt wd x.p = []
  · rw [step1_none c] at h
    cases h
  · obtain ⟨b, _, _, ga, e⟩ := step1_some (r := r) c
    rw [e] at h
    have : b.1 = a := Option.some.inj h
    rw [← this]
    exact (ww.at_ ox.1).2.2 _ (List.mem_of_getElem? ga)
theorem tabOk_like0 (wd : Kp379.World) : TabOk wd (bt 0) (like0 wd) := by
  intro x _
  refine ⟨by simp [like0], fun u hu => ?_⟩
  unfold like0
  rw [mapD hu]
  split
  · exact ⟨show (1 : Int).natAbs < 2 ^ 1 by decide, show (1 : Int).natAbs < 2 ^ 1 by decide, show (0 : Int) < 1 by decide⟩
  · exact ⟨show (0 : Int).natAbs < 2 ^ 1 by decide, show (1 : Int).natAbs < 2 ^ 1 by decide, show (0 : Int) < 1 by decide⟩
theorem tabOk_step {wd : Kp379.World} (ww : WfW wd) {r : Kp379.Row} {G : Stand → List Fr} {B : Nat} (h : TabOk wd B G) : TabOk wd (4 * B + 10) (likeStep wd r G) := by
  intro x ox
  unfold likeStep
  cases e : (step1 wd r x).1 with
  | none => exact ⟨(h x ox).1, fun u hu => ((h x ox).2 u hu).up (by omega)⟩
  | some a =>
    have wa := done_wf ww ox e
    refine ⟨by simp, fun u hu => ?_⟩
    show Bits _ (((List.range wd.v).map fun u => meanF wd G x (Kp379.actAt wd x.p a) u).getD u (0, 1))
    rw [mapD hu]
    exact (mean_bits ww.n4 wa fun q hq => (h _ (behind_ok ox wa hq)).2 u hu).2.2.1
theorem tabOk_like {wd : Kp379.World} (ww : WfW wd) : ∀ k, TabOk wd (bt k) (like wd k)
  | 0 => tabOk_like0 wd
  | k + 1 => tabOk_step ww (tabOk_like ww k)
/-- it is the specification's chance -/
theorem like_val {wd : Kp379.World} (ww : WfW wd) {s : Nat} (hs : s < wd.v) : ∀ k x, OkS wd x → Nrm ((like wd k x).getD s (0, 1)) ∧ val ((like wd k x).getD s (0, 1)) = chance wd s k x
  | 0, x, ox => by
    show Nrm ((like0 wd x).getD s (0, 1)) ∧ val ((like0 wd x).getD s (0, 1)) = if x.s = s then 1 else 0
    unfold like0
    rw [mapD hs]
    by_cases c : s = x.s
    · rw [if_pos c, if_pos c.symm]
      exact ⟨nrm_one, val_one⟩
    · rw [if_neg c, if_neg (fun z => c z.symm)]
      exact ⟨nrm_zero, val_zero⟩
  | k + 1, x, ox => by
    show Nrm ((likeStep wd (Kp379.rowAt wd k) (like wd k) x).getD s (0, 1)) ∧ val ((likeStep wd (Kp379.rowAt wd k) (like wd k) x).getD s (0, 1)) = back wd (k + 1) (chance wd s k) x
    unfold likeStep back
    rw [does_is ox]
    cases e : (step1 wd (Kp379.rowAt wd k) x).1 with
    | none => exact like_val ww hs k x ox
    | some a =>
      have wa := done_wf ww ox e
      show Nrm (((List.range wd.v).map fun u => meanF wd (like wd k) x (Kp379.actAt wd x.p a) u).getD s (0, 1)) ∧ val (((List.range wd.v).map fun u => meanF wd (like wd k) x (Kp379.actAt wd x.p a) u).getD s (0, 1)) = _
      rw [mapD hs]
      let f : Nat → Fr := fun q => (like wd k (Kp379.behind x (Kp379.actAt wd x.p a) q)).getD s (0, 1)
      have ih : ∀ q, q < wd.n → Nrm (f q) ∧ val (f q) = chance wd s k (Kp379.behind x (Kp379.actAt wd x.p a) q) := fun q hq => like_val ww hs k _ (behind_ok ox wa hq)
      have em : meanF wd (like wd k) x (Kp379.actAt wd x.p a) s = Kp340.sumF ((List.range wd.n).map (term (Kp379.actAt wd x.p a).to f)) := rfl
      have tv : ∀ q, q < wd.n → Pos (term (Kp379.actAt wd x.p a).to f q) ∧ val (term (Kp379.actAt wd x.p a).to f q) = (((Kp379.actAt wd x.p a).to.getD q 0 : Nat) : Rat) / ((Kp346.total (Kp379.actAt wd x.p a).to : Nat) : Rat) * chance wd s k (Kp379.behind x (Kp379.actAt wd x.p a) q) := by
        intro q hq
        obtain ⟨i1, i2⟩ := ih q hq
        unfold term
        by_cases c : (Kp379.actAt wd x.p a).to.getD q 0 = 0
        · rw [if_pos c, c]
          refine ⟨pos_zero, ?_⟩
          rw [val_zero]
          simp
          grind
        · rw [if_neg c]
          obtain ⟨s1, s2⟩ := share_val (q := q) wa.wt
          refine ⟨(nrm_mul s1.1 i1.1).1, ?_⟩
          rw [val_mul s1.1 i1.1, s2, i2]
      rw [em]
      obtain ⟨r1, r2⟩ := sumF_val (l := (List.range wd.n).map (term (Kp379.actAt wd x.p a).to f)) (fun u hu => by
        obtain ⟨q, hq, rfl⟩ := List.mem_map.mp hu
        exact (tv q (List.mem_range.mp hq)).1)
      refine ⟨r1, ?_⟩
      rw [r2, List.map_map]
      exact sum_congr fun q hq => (tv q (List.mem_range.mp hq)).2
theorem still_like {wd : Kp379.World} (ww : WfW wd) {x : Stand} (ox : OkS wd x) {s k : Nat} (hs : s < wd.v) : (Kp379.selves wd x k).getD s (0, 1) = (like wd k x).getD s (0, 1) := by
  obtain ⟨h1, h2⟩ := still_is (fine_of ww) ox (k := k) hs
  obtain ⟨h3, h4⟩ := like_val ww hs k x ox
  exact eq_of_val h1 h3 (h2.trans h4.symm)
section
variable {P : Program} {w : World} {K : PySem.W.Frag} {mg : Str → Option Value} {base : Heap} {n : Nm}
/-! ### likely_one_step_more -/
def sp_likely_one_step_more (n : Nm) : Sp := fun vs H Q _ => ∃ (v vt vl : V) (wd : Kp379.World) (r : Kp379.Row) (G : Stand → List Fr) (B C : Nat), vs = [v, vt, vl] ∧ HRead n wd v H ∧ IsTab wd r vt H ∧ IsTabF wd G vl H ∧ WfW wd ∧ RowOk wd B r ∧ B ≤ 900 ∧ TabOk wd C G ∧ C ≤ 900 ∧ RetR (IsTabF wd (likeStep wd r G)) H Q
theorem ok_likely_one_step_more (D : Ds n K mg) : FnOk P w K mg base CX0 7 n.f_likely_one_step_more n.fd_likely_one_step_more P_likely_one_step_more (sp_likely_one_step_more n) := by
  have G_all_stands := ok_all_stands (P := P) (w := w) (base := base) D
  have G_act_done := ok_act_done (P := P) (w := w) (base := base) D
  have G_mean_behind := ok_mean_behind (P := P) (w := w) (base := base) D
  refine D.d_likely_one_step_more.F.ok sc_likely_one_step_more (fun vs H Q E h => ?_) (fun cdv A outer sh H vs Q E hr h => ?_)
  · obtain ⟨v, vt, vl, wd, r, G, B, C, rfl, _⟩ := h
    rfl
  · obtain ⟨v, vt, vl, wd, r, G, B, C, rfl, hH, hT, hL, ww, ro, hB, go, hC, k⟩ := h
    refine ⟨_, (pss_cons (ps_set (i := 3) sc_likely_one_step_more.nd rfl (Or.inl rfl) pe_dnewT)
      (pss_cons (ps_for PassesOwn.never rfl (pi_list (pe_call G_all_stands (hr.mono (by decide)) rfl D.d_all_stands.g D.d_all_stands.F.kp D.d_all_stands.b .nil pass0 (pa_cons (pv 0) pa_nil))) (pg_name (i := 4) sc_likely_one_step_more.nd rfl (Or.inr rfl))
        (pss_cons (ps_set (i := 5) sc_likely_one_step_more.nd rfl (Or.inr rfl) (pe_call G_act_done (hr.mono (by decide)) rfl D.d_act_done.g D.d_act_done.F.kp D.d_act_done.b .nil pass0 (pa_cons (pv 0) (pa_cons (pv 4) (pa_cons (pv 1) pa_nil)))))
        (pss_one (ps_if (pt_cmpR op_isN (pv 5) pe_non (nomark _))
          (pss_one (ps_dput (hu_of hr) (pv 3) (pv 4) (pe_dget (hu_of hr) (pv 2) (pv 4) (fun _ _ => rfl)) rfl))
          (pss_one (ps_dput (hu_of hr) (pv 3) (pv 4) (pe_lc (own := [("who", 6)]) (g := gName 6) (tt := tYes) rfl sc_likely_one_step_more.nd (pi_range1 (by rfl) D.n_range (pa_cons (pe_fld (pv 0) rfl) pa_nil)) (blkOk_by (own := [("who", 6)]) (N := N_likely_one_step_more) (sc := defScope s_likely_one_step_more) (by decide +kernel)) (fun _ _ _ _ _ => (pg_name (i := 6) sc_likely_one_step_more.nd rfl (Or.inl rfl))) (fun _ _ _ _ _ => pts_nil) (fun _ _ _ _ _ => (pe_call G_mean_behind (hr.mono (by decide)) rfl D.d_mean_behind.g D.d_mean_behind.F.kp D.d_mean_behind.b .nil pass0 (pa_cons (pv 5) (pa_cons (pv 4) (pa_cons (pv 2) (pa_cons (pv 6) pa_nil))))))) rfl))))))
      (pss_one (ps_ret (pv 3))))), ?_⟩
    intro d hd
    have e0 : Ex H (upd H d (.dT [])) := Evl.Ex.new hd
    refine ⟨_, rfl, _, wd, rfl, hH.mono e0, ww, fun vs H1 e1 hl => ?_⟩
    obtain ⟨l, xs, rfl, hl1, hE⟩ := hl
    have m0 : Making wd (likeStep wd r G) d 0 H1 := Making.mono e1 (.start upd_same)
    have ls := stands_small ww
    refine ⟨l, rfl, ⟨xs, sqL hl1⟩, for_list (K := K) (a := l) (xs := xs) (fun i σ H' => Ex H H' ∧ H' l = some (.lst xs) ∧ Each IsStand (Kp379.stands wd) xs H' ∧ Making wd (likeStep wd r G) d i H' ∧ ∃ o4 o5 : Option V, σ = [some v, some vt, some vl, some (.ref d), o4, o5, none])
      ⟨e0.trans e1, hl1, hE, m0, none, none, rfl⟩ (fun i σ H' _ h => sqL h.2.1) ?_ ?_⟩
    · rintro i y σ H' hi ⟨e2, h1, h2, m, o4, o5, rfl⟩
      obtain ⟨x, hx, hX⟩ := h2.back hi
      have hX' := hX
      obtain ⟨b, rfl, hb⟩ := hX'
      have ox : OkS wd x := mem_stands (List.mem_of_getElem? hx)
      have il := (List.getElem?_eq_some_iff.mp hx).1
      refine ⟨_, rfl, _, rfl, _, rfl, _, _, _, wd, x, r, B, rfl, hH.mono e2, hX, hT.mono e2, ww, ox, ro, hB, fun va H2 e3 hd2 => ?_⟩
      refine ⟨_, rfl, rfl, _, rfl, ?_⟩
      -- the store
      have fin : ∀ (u : V) (H3 : Hp), Ex H2 H3 → IsLst IsFr (likeStep wd r G x) u H3 → ∃ H4, DPut H3 d (.ref b) u H4 ∧ (Ex H H4 ∧ H4 l = some (.lst xs) ∧ Each IsStand (Kp379.stands wd) xs H4 ∧ Making wd (likeStep wd r G) d (i + 1) H4) := by
        intro u H3 e4 hu
        have e34 := e3.trans e4
        obtain ⟨H4, h4, h5, o, rfl⟩ := (m.mono e34).step hx (e34 _ _ hb) hu (by omega)
        obtain ⟨kvs, hdk, _⟩ := (m.mono e34).ex
        refine ⟨_, h4, Evl.Ex.mut (e2.trans e34) hd, ?_, h2.mono (fun a v ha => (ha.mono e34).upd hdk noTup_dT), h5⟩
        rw [upd_ne (ne_of (e34 _ _ h1) hdk (by intro z; cases z))]
        exact e34 _ _ h1
      rcases hd2 with ⟨c, rfl, hs⟩ | ⟨a, hs, hAd, wa⟩
      · refine if_t rfl ?_
        obtain ⟨pl, kvl, rfl, hpl, hrow⟩ := hL.mono (e2.trans e3)
        obtain ⟨u, hu, hlu⟩ := hrow x ox
        have es : likeStep wd r G x = G x := by unfold likeStep; rw [hs]
        obtain ⟨H4, f1, f2, f3, f4, f5⟩ := fin u H2 (Evl.Ex.refl _) (by rw [es]; exact hlu)
        refine ⟨_, rfl, _, rfl, pl, _, rfl, by rw [← hu]; exact DGet.t hpl (e3 _ _ hb), _, rfl, _, rfl, d, _, rfl, f1, f2, f3, f4, f5, _, _, rfl⟩
      · refine if_f (act_not_none hAd) ?_
        have es : likeStep wd r G x = (List.range wd.v).map fun u => meanF wd G x (Kp379.actAt wd x.p a) u := by unfold likeStep; rw [hs]
        obtain ⟨p, dx, fs, vas, rfl, hp, f1, f2, f3, _⟩ := hH.mono (e2.trans e3)
        refine ⟨_, rfl, p, n.C_House, dx, _, _, rfl, hp, D.c_House.cl, D.House_selves, f2, (wd.v : Int), rfl, by have := ww.v3; omega, by have := ww.v3; omega, fun Dl hD => ?_⟩
        have nn : ((wd.v : Int)).toNat = wd.v := by omega
        refine lc_range (lo := 0) (n := ((wd.v : Int)).toNat) (fun i H' => Ex H2 H' ∧ ∃ vs, H' Dl = some (.lst vs) ∧ Each IsFr ((List.range i).map fun u => meanF wd G x (Kp379.actAt wd x.p a) u) vs H') ⟨Evl.Ex.new hD, [], upd_same, Each.nil⟩ ?_ ?_
        · rintro j H3 hj ⟨e4, vs, h4, h5⟩
          have v3 := ww.v3
          have e24 := (e2.trans e3).trans e4
          have ei : (0 : Int) + (j : Int) = (j : Int) := by omega
          refine ⟨rfl, ?_⟩
          refine ⟨_, rfl, _, rfl, _, rfl, _, rfl, ?_⟩
          refine ⟨_, _, _, j, wd, _, x, G, C, by rw [ei]; rfl, hAd.mono e4, hX.mono (e3.trans e4), hL.mono e24, ww.n4, wa, ox, by omega, go, hC, fun vf H4 e5 hvf => ?_⟩
          have h4' := e5 _ _ h4
          refine ⟨vs, h4', small1000 (by rw [h5.1]; simp; omega), Evl.Ex.mut (e4.trans e5) hD, vs ++ [vf], upd_same, ?_⟩
          rw [range_map_succ]
          exact Each.snoc (h5.mono fun x v hx => (hx.mono e5).upd h4' noTup_lst) (hvf.upd h4' noTup_lst)
        · rintro H3 ⟨e4, vs, h4, h5⟩
          rw [nn] at h5
          obtain ⟨H4, g1, g2, g3, g4, g5⟩ := fin (.ref Dl) H3 e4 (by rw [es]; exact ⟨Dl, vs, rfl, h4, h5⟩)
          exact ⟨_, rfl, _, rfl, d, _, rfl, g1, g2, g3, g4, g5, _, _, rfl⟩
    · rintro σ H' ⟨e2, h1, h2, m, o4, o5, rfl⟩
      refine ⟨_, rfl, k.go e2 ?_⟩
      rw [h2.1] at m
      exact m.doneF
/-! ### likely_table -/
def sp_likely_table (n : Nm) : Sp := fun vs H Q _ => ∃ (v : V) (wd : Kp379.World) (st : Nat), vs = [v, .int (st : Int)] ∧ HRead n wd v H ∧ WfW wd ∧ st ≤ 4 ∧ RetR (IsTabF wd (like wd st)) H Q
theorem ok_likely_table (D : Ds n K mg) : FnOk P w K mg base CX0 10 n.f_likely_table n.fd_likely_table P_likely_table (sp_likely_table n) := by
  have G_all_stands := ok_all_stands (P := P) (w := w) (base := base) D
  have G_worth_tables := ok_worth_tables (P := P) (w := w) (base := base) D
  have G_likely_one_step_more := ok_likely_one_step_more (P := P) (w := w) (base := base) D
  refine D.d_likely_table.F.ok sc_likely_table (fun vs H Q E h => ?_) (fun cdv A outer sh H vs Q E hr h => ?_)
  · obtain ⟨v, wd, st, rfl, _⟩ := h
    rfl
  · obtain ⟨v, wd, st, rfl, hH, ww, hst, k⟩ := h
    refine ⟨_, (pss_cons (ps_set (i := 2) sc_likely_table.nd rfl (Or.inl rfl) pe_dnewT)
      (pss_cons (ps_for PassesOwn.never rfl (pi_list (pe_call G_all_stands (hr.mono (by decide)) rfl D.d_all_stands.g D.d_all_stands.F.kp D.d_all_stands.b .nil pass0 (pa_cons (pv 0) pa_nil))) (pg_name (i := 3) sc_likely_table.nd rfl (Or.inr rfl))
        (pss_one (ps_dput (hu_of hr) (pv 2) (pv 3) (pe_lc (own := [("who", 6)]) (g := gName 6) (tt := tYes) rfl sc_likely_table.nd (pi_range1 (by rfl) D.n_range (pa_cons (pe_fld (pv 0) rfl) pa_nil)) (blkOk_by (own := [("who", 6)]) (N := N_likely_table) (sc := defScope s_likely_table) (by decide +kernel)) (fun _ _ _ _ _ => (pg_name (i := 6) sc_likely_table.nd rfl (Or.inl rfl))) (fun _ _ _ _ _ => pts_nil) (fun _ _ _ _ _ => (pe_ifExp (pt_cmpR op_eq (pv 6) (pe_ix (r := rIxT K) ix_tup (pv 3) pe_int (fun _ _ => rfl)) (nomark _)) (pe_tup (pa_cons pe_int (pa_cons pe_int pa_nil))) (pe_tup (pa_cons pe_int (pa_cons pe_int pa_nil)))))) rfl)))
      (pss_cons (ps_set (i := 4) sc_likely_table.nd rfl (Or.inl rfl) (pe_call G_worth_tables (hr.mono (by decide)) rfl D.d_worth_tables.g D.d_worth_tables.F.kp D.d_worth_tables.b .nil pass0 (pa_cons (pv 0) (pa_cons (pv 1) pa_nil))))
      (pss_cons (ps_for PassesOwn.never rfl (pi_range1 (by rfl) D.n_range (pa_cons (pv 1) pa_nil)) (pg_name (i := 5) sc_likely_table.nd rfl (Or.inl rfl))
        (pss_one (ps_set (i := 2) sc_likely_table.nd rfl (Or.inl rfl) (pe_call G_likely_one_step_more (hr.mono (by decide)) rfl D.d_likely_one_step_more.g D.d_likely_one_step_more.F.kp D.d_likely_one_step_more.b .nil pass0 (pa_cons (pv 0) (pa_cons (pe_ix ix_list (pv 4) (pv 5) (fun _ _ => rfl)) (pa_cons (pv 2) pa_nil)))))))
      (pss_one (ps_ret (pv 2))))))), ?_⟩
    intro d hd
    have e0 : Ex H (upd H d (.dT [])) := Evl.Ex.new hd
    refine ⟨_, rfl, _, wd, rfl, hH.mono e0, ww, fun vs H1 e1 hl => ?_⟩
    obtain ⟨l, xs, rfl, hl1, hE⟩ := hl
    have m0 : Making wd (like0 wd) d 0 H1 := Making.mono e1 (.start upd_same)
    have ls := stands_small ww
    refine ⟨l, rfl, ⟨xs, sqL hl1⟩, for_list (K := K) (a := l) (xs := xs) (fun i σ H' => Ex H H' ∧ H' l = some (.lst xs) ∧ Each IsStand (Kp379.stands wd) xs H' ∧ Making wd (like0 wd) d i H' ∧ ∃ o3 : Option V, σ = [some v, some (.int (st : Int)), some (.ref d), o3, none, none, none])
      ⟨e0.trans e1, hl1, hE, m0, none, rfl⟩ (fun i σ H' _ h => sqL h.2.1) ?_ ?_⟩
    · rintro i y σ H' hi ⟨e2, h1, h2, m, o3, rfl⟩
      obtain ⟨x, hx, hX⟩ := h2.back hi
      obtain ⟨b, rfl, hb⟩ := hX
      have il := (List.getElem?_eq_some_iff.mp hx).1
      obtain ⟨p, dx, fs, vas, rfl, hp, f1, f2, f3, _⟩ := hH.mono e2
      refine ⟨_, rfl, p, n.C_House, dx, _, _, rfl, hp, D.c_House.cl, D.House_selves, f2, (wd.v : Int), rfl, by have := ww.v3; omega, by have := ww.v3; omega, fun Dl hD => ?_⟩
      have nn : ((wd.v : Int)).toNat = wd.v := by omega
      refine lc_range (lo := 0) (n := ((wd.v : Int)).toNat) (fun j H2 => Ex H' H2 ∧ ∃ vs, H2 Dl = some (.lst vs) ∧ Each IsFr ((List.range j).map fun u => if u = x.s then ((1 : Int), (1 : Int)) else (0, 1)) vs H2) ⟨Evl.Ex.new hD, [], upd_same, Each.nil⟩ ?_ ?_
      · rintro j H3 hj ⟨e4, vs, h4, h5⟩
        have v3 := ww.v3
        have ei : (0 : Int) + (j : Int) = (j : Int) := by omega
        refine ⟨rfl, ?_⟩
        -- one more fraction
        have fin : ∀ (z : Fr) (q : Addr), H3 q = none → z = (if j = x.s then ((1 : Int), (1 : Int)) else (0, 1)) → ∃ acc, (upd H3 q (.tup [.int z.1, .int z.2])) Dl = some (.lst acc) ∧ acc.length < sizeLine ∧ (Ex H' (upd (upd H3 q (.tup [.int z.1, .int z.2])) Dl (.lst (acc ++ [.ref q]))) ∧ ∃ vs, (upd (upd H3 q (.tup [.int z.1, .int z.2])) Dl (.lst (acc ++ [.ref q]))) Dl = some (.lst vs) ∧ Each IsFr ((List.range (j + 1)).map fun u => if u = x.s then ((1 : Int), (1 : Int)) else (0, 1)) vs (upd (upd H3 q (.tup [.int z.1, .int z.2])) Dl (.lst (acc ++ [.ref q])))) := by
          intro z q hq hz
          have n1 : Dl ≠ q := ne_of_none h4 hq
          have e5 : Ex H3 (upd H3 q (.tup [.int z.1, .int z.2])) := Evl.Ex.new hq
          have h4' := e5 _ _ h4
          refine ⟨vs, h4', small1000 (by rw [h5.1]; simp; omega), Evl.Ex.mut (e4.trans e5) hD, vs ++ [.ref q], upd_same, ?_⟩
          rw [range_map_succ, ← hz]
          refine Each.snoc (h5.mono fun x v hx => (hx.mono e5).upd h4' noTup_lst) ?_
          exact IsFr.upd (x := z) ⟨q, rfl, upd_same⟩ h4' noTup_lst
        refine ⟨_, rfl, _, rfl, b, _, _, _, rfl, rfl, sqT (e4 _ _ hb), rfl, rfl, _, rfl, ?_⟩
        by_cases c : j = x.s
        · refine if_t (by rw [ei, c]; exact decide_eq_true rfl) ?_
          exact ⟨by show 2 ≤ sizeLine; decide, fun q hq => fin (1, 1) q hq (by rw [if_pos c])⟩
        · refine if_f (decide_eq_false fun z => c (by have := V.int.inj z; omega)) ?_
          exact ⟨by show 2 ≤ sizeLine; decide, fun q hq => fin (0, 1) q hq (by rw [if_neg c])⟩
      · rintro H3 ⟨e4, vs, h4, h5⟩
        rw [nn] at h5
        obtain ⟨H4, g4, g5, o, rfl⟩ := (m.mono e4).step hx (e4 _ _ hb) (u := .ref Dl) ⟨Dl, vs, rfl, h4, h5⟩ (by omega)
        obtain ⟨kvs, hdk, _⟩ := (m.mono e4).ex
        refine ⟨_, rfl, _, rfl, d, _, rfl, g4, Evl.Ex.mut (e2.trans e4) hd, ?_, h2.mono (fun a v ha => (ha.mono e4).upd hdk noTup_dT), g5, _, rfl⟩
        rw [upd_ne (ne_of (e4 _ _ h1) hdk (by intro z; cases z))]
        exact e4 _ _ h1
    · rintro σ H' ⟨e2, h1, h2, m, o3, rfl⟩
      rw [h2.1] at m
      have t0 : IsTabF wd (like wd 0) (.ref d) H' := m.doneF
      refine ⟨_, rfl, _, rfl, _, wd, st, rfl, hH.mono e2, ww, hst, fun vw H2 e3 hW => ?_⟩
      refine ⟨_, rfl, (st : Int), rfl, by omega, by omega, for_range (lo := 0) (n := ((st : Int)).toNat) (fun i σ H' => Ex H2 H' ∧ ∃ (vt : V) (o5 : Option V), IsTabF wd (like wd i) vt H' ∧ σ = [some v, some (.int (st : Int)), some vt, o3, some vw, o5, none]) ⟨Evl.Ex.refl _, _, none, t0.mono e3, rfl⟩ ?_ ?_⟩
      · rintro i σ H3 hi ⟨e4, vt, o5, t, rfl⟩
        have ei : (0 : Int) + (i : Int) = (i : Int) := by omega
        obtain ⟨pw, vws, rfl, hpw, hlw, hjw⟩ := hW.mono e4
        obtain ⟨u, hu, tu⟩ := hjw i (by omega)
        refine ⟨_, rfl, _, rfl, _, rfl, pw, _, _, _, rfl, rfl, sqL hpw, at_of ei hu, _, rfl, ?_⟩
        refine ⟨_, _, _, wd, Kp379.rowAt wd i, like wd i, bt i, bt i, rfl, hH.mono ((e2.trans e3).trans e4), tu, t, ww, rowOk ww i, bt_le (by omega), tabOk_like ww i, bt_le (by omega), fun vt2 H4 e5 t2 => ?_⟩
        exact ⟨e4.trans e5, vt2, _, t2, rfl⟩
      · rintro σ H3 ⟨e4, vt, o5, t, rfl⟩
        have nn : ((st : Int)).toNat = st := by omega
        rw [nn] at t
        exact ⟨_, rfl, k.go ((e2.trans e3).trans e4) t⟩
end
end CI
/-! Whether a self turns anywhere; whether it surely stays who it is. -/
namespace CI
open PySem PySem.Spec PyProof.Rows L2
open Evl (Ex fresh_back)
open Kp340 (Fr fr)
open Kp379 (Stand)
/-! ### turning -/
def turnsB (wd : Kp379.World) (r : Kp379.Row) (s p : Nat) : Bool := match (step1 wd r ⟨p, s, false⟩).1 with
  | none => false
  | some a => (Kp379.behind ⟨p, s, false⟩ (Kp379.actAt wd p a) p).s != s
theorem filter_isEmpty {α : Type} (l : List α) (f : α → Bool) : (l.filter f).isEmpty = !(l.any f) := by
  induction l with
  | nil => rfl
  | cons x r ih =>
    rw [List.filter_cons, List.any_cons]
    cases f x
    · simpa using ih
    · rfl
theorem any_congr {α : Type} {l : List α} {f g : α → Bool} (h : ∀ x ∈ l, f x = g x) : l.any f = l.any g := by
  induction l with
  | nil => rfl
  | cons x r ih =>
    rw [List.any_cons, List.any_cons, h x List.mem_cons_self, ih fun y hy => h y (List.mem_cons_of_mem _ hy)]
theorem turnsAt_empty {wd : Kp379.World} {s : Nat} (hs : s < wd.v) (t : Nat) : (Kp379.turnsAt wd s (t + 1)).isEmpty = !((List.range wd.n).any (turnsB wd (Kp379.rowAt wd t) s)) := by
  unfold Kp379.turnsAt
  rw [filter_isEmpty]
  congr 1
  refine any_congr fun p hp => ?_
  have e : (Kp379.rowAt wd (t + 1)).getD (Kp379.index wd ⟨p, s, false⟩) (none, []) = step1 wd (Kp379.rowAt wd t) ⟨p, s, false⟩ := by
    rw [rowAt_succ]
    exact ent_next ⟨List.mem_range.mp hp, hs⟩
  rw [e]
  unfold turnsB
  cases (step1 wd (Kp379.rowAt wd t) ⟨p, s, false⟩).1 with
  | none => rfl
  | some a =>
    show ((Kp379.actAt wd p a).turn != 0 && (Kp379.actAt wd p a).turn - 1 != s) = ((if (false || (Kp379.actAt wd p a).turn == 0) = true then s else (Kp379.actAt wd p a).turn - 1) != s)
    by_cases c : (Kp379.actAt wd p a).turn = 0
    · simp [c]
    · simp [c]
/-! ### surely -/
theorem stays_may {w : Kp379.World} (fine : Fine w) {s p k : Nat} : Kp381.stays w s p k = true ↔ ∀ t, t ≤ k → ∀ y, Ok w y → may w ⟨p, s, false⟩ k t y → y.s = s := by
  rw [stays_is, List.all_eq_true]
  constructor
  · intro h t ht y hy hm
    have h2 := h t (List.mem_range.mpr (by omega))
    rw [List.all_eq_true] at h2
    have h3 := h2 y (List.mem_of_getElem? (stand_at hy))
    rw [Bool.or_eq_true] at h3
    rcases h3 with z | z
    · exact eq_of_beq z
    · exfalso
      refine (may_is fine t ht y hy).mpr hm ?_
      exact (val_eq_zero (dist_pos fine _ k t ht y hy).1.1).mpr (eq_of_beq z)
  · intro h t ht
    have ht' : t ≤ k := by have := List.mem_range.mp ht; omega
    rw [List.all_eq_true]
    intro y hy
    have oy := mem_stands hy
    rw [Bool.or_eq_true]
    by_cases c : y.s = s
    · exact Or.inl (beq_iff_eq.mpr c)
    · refine Or.inr (beq_iff_eq.mpr ?_)
      have : pr w ⟨p, s, false⟩ k t y = 0 := Decidable.byContradiction fun c2 => c (h t ht' y oy ((may_is fine t ht' y oy).mp c2))
      exact (val_eq_zero (dist_pos fine _ k t ht' y oy).1.1).mp this
/-- how it may stand behind one step -/
def moves (wd : Kp379.World) (r : Kp379.Row) (z y : Stand) : Prop := match (step1 wd r z).1 with
  | none => y = z
  | some a => ∃ q, q < wd.n ∧ 0 < (Kp379.actAt wd z.p a).to.getD q 0 ∧ y = Kp379.behind z (Kp379.actAt wd z.p a) q
theorem moves_ok {wd : Kp379.World} (ww : WfW wd) {r : Kp379.Row} {z y : Stand} (oz : OkS wd z) (h : moves wd r z y) : OkS wd y := by
  unfold moves at h
  cases e : (step1 wd r z).1 with
  | none =>
    rw [e] at h
    rw [show y = z from h]
    exact oz
  | some a =>
    rw [e] at h
    obtain ⟨q, hq, _, rfl⟩ := h
    exact behind_ok oz (done_wf ww oz e) hq
theorem moves_is {wd : Kp379.World} (ww : WfW wd) {j : Nat} {z y : Stand} (oz : OkS wd z) : mv wd (j + 1) z y ≠ 0 ↔ moves wd (Kp379.rowAt wd j) z y := by
  rw [mv_ne (fine_of ww) oz, does_is oz]
  unfold moves
  cases e : (step1 wd (Kp379.rowAt wd j) z).1 with
  | none => exact ⟨fun h => h.symm, fun h => h.symm⟩
  | some a =>
    have wa := done_wf ww oz e
    constructor
    · rintro ⟨h1, h2⟩
      refine ⟨y.p, ?_, by omega, h1.symm⟩
      by_cases c : y.p < wd.n
      · exact c
      · exfalso
        refine h2 ?_
        rw [List.getD_eq_getElem?_getD, List.getElem?_eq_none (by have := wa.wl; omega)]
        rfl
    · rintro ⟨q, hq, h1, rfl⟩
      exact ⟨rfl, by show (Kp379.actAt wd z.p a).to.getD q 0 ≠ 0; omega⟩
/-! ### a dict's keys -/
theorem putK_keys {kvs : List (List Key × V)} {ys : List Stand} {x : Stand} {v : V} (h : kvs.map (·.1) = ys.map sk) : ∃ ys' : List Stand, (putK kvs (sk x) v).map (·.1) = ys'.map sk ∧ (∀ y, y ∈ ys' ↔ y ∈ ys ∨ y = x) ∧ ys'.length ≤ ys.length + 1 := by
  unfold putK
  by_cases c : (kvs.any fun kv => decide (kv.1 = sk x)) = true
  · rw [if_pos c]
    refine ⟨ys, ?_, fun y => ⟨Or.inl, fun z => ?_⟩, by omega⟩
    · rw [← h, List.map_map]
      refine List.map_congr_left fun kv _ => ?_
      show (if kv.1 = sk x then (kv.1, v) else kv).1 = kv.1
      split <;> rfl
    · rcases z with z | z
      · exact z
      · subst z
        rw [List.any_eq_true] at c
        obtain ⟨kv, hm, hk⟩ := c
        have : sk y ∈ ys.map sk := by
          rw [← h, ← of_decide_eq_true hk]
          exact List.mem_map_of_mem hm
        obtain ⟨y', hy', e⟩ := List.mem_map.mp this
        rw [← sk_inj e]
        exact hy'
  · rw [if_neg c]
    refine ⟨ys ++ [x], ?_, fun y => ?_, by simp⟩
    · rw [List.map_append, List.map_append, h]
      rfl
    · simp
theorem paired_get {α β : Type} {F : α → β → Prop} {l : List α} {m : List β} (h : Paired F l m) : l.length = m.length ∧ ∀ (i : Nat) (a : α), l[i]? = some a → ∃ b, m[i]? = some b ∧ F a b := by
  induction h with
  | nil => exact ⟨rfl, fun i a h => by simp at h⟩
  | cons h1 _ ih =>
    refine ⟨by simp [ih.1], fun i a ha => ?_⟩
    cases i with
    | zero =>
      have := Option.some.inj ha
      subst this
      exact ⟨_, rfl, h1⟩
    | succ i => exact ih.2 i a ha
theorem keys_each {H : Hp} {kvs : List (List Key × V)} {bs : List Addr} {ys : List Stand} (h : IsKeys H kvs bs) (e : kvs.map (·.1) = ys.map sk) : Each IsStand ys (bs.map V.ref) H := by
  obtain ⟨h1, h2⟩ := paired_get h
  have l1 : kvs.length = ys.length := by
    have := congrArg List.length e
    simpa using this
  refine ⟨by rw [List.length_map]; omega, fun i y hy => ?_⟩
  have hi := (List.getElem?_eq_some_iff.mp hy).1
  have hk : kvs[i]? = some kvs[i] := List.getElem?_eq_getElem (by omega)
  obtain ⟨b, hb, hb2⟩ := h2 i _ hk
  have e2 : (kvs[i]).1 = sk y := by
    have h3 : (kvs.map (·.1))[i]? = some (kvs[i]).1 := by rw [List.getElem?_map, hk]; rfl
    rw [e, List.getElem?_map, hy] at h3
    exact (Option.some.inj h3).symm
  refine ⟨.ref b, by rw [List.getElem?_map, hb]; rfl, b, rfl, ?_⟩
  rw [e2, sk_map] at hb2
  exact hb2
section
variable {P : Program} {w : World} {K : PySem.W.Frag} {mg : Str → Option Value} {base : Heap} {n : Nm}
/-! ### turns_there -/
def sp_turns_there (n : Nm) : Sp := fun vs H Q _ => ∃ (v vt : V) (wd : Kp379.World) (p s : Nat) (r : Kp379.Row) (B : Nat), vs = [v, .int (p : Int), .int (s : Int), vt] ∧ HRead n wd v H ∧ IsTab wd r vt H ∧ WfW wd ∧ p < wd.n ∧ s < wd.v ∧ RowOk wd B r ∧ B ≤ 900 ∧ RetR (fun v _ => v = .bl (turnsB wd r s p)) H Q
theorem ok_turns_there (D : Ds n K mg) : FnOk P w K mg base CX0 7 n.f_turns_there n.fd_turns_there P_turns_there (sp_turns_there n) := by
  have G_act_done := ok_act_done (P := P) (w := w) (base := base) D
  have G_stand_behind := ok_stand_behind (P := P) (w := w) (base := base) D
  refine D.d_turns_there.F.ok sc_turns_there (fun vs H Q E h => ?_) (fun cdv A outer sh H vs Q E hr h => ?_)
  · obtain ⟨v, vt, wd, p, s, r, B, rfl, _⟩ := h
    rfl
  · obtain ⟨v, vt, wd, p, s, r, B, rfl, hH, hT, ww, hp, hs, ro, hB, k⟩ := h
    refine ⟨_, (pss_cons (ps_set (i := 4) sc_turns_there.nd rfl (Or.inl rfl) (pe_tup (pa_cons (pv 1) (pa_cons (pv 2) (pa_cons pe_int pa_nil)))))
      (pss_cons (ps_set (i := 5) sc_turns_there.nd rfl (Or.inl rfl) (pe_call G_act_done (hr.mono (by decide)) rfl D.d_act_done.g D.d_act_done.F.kp D.d_act_done.b .nil pass0 (pa_cons (pv 0) (pa_cons (pv 4) (pa_cons (pv 3) pa_nil)))))
      (pss_one (ps_ret (pe_and (pe_cmpR op_notN (pv 5) pe_non (nomark _)) (pe_one (pe_cmpR op_ne (pe_ix ix_tup (pe_call G_stand_behind (hr.mono (by decide)) rfl D.d_stand_behind.g D.d_stand_behind.F.kp D.d_stand_behind.b .nil pass0 (pa_cons (pv 5) (pa_cons (pv 4) (pa_cons (pv 1) pa_nil)))) pe_int (fun _ _ => rfl)) (pv 2) (nomark _)))))))), ?_⟩
    refine ⟨_, rfl, _, rfl, by show 3 ≤ sizeLine; decide, fun t ht => ?_⟩
    have e1 : Ex H (upd H t (.tup [.int (p : Int), .int (s : Int), .int 0])) := Evl.Ex.new ht
    have hX : IsStand ⟨p, s, false⟩ (.ref t) (upd H t (.tup [.int (p : Int), .int (s : Int), .int 0])) := ⟨t, rfl, upd_same⟩
    have ox : OkS wd ⟨p, s, false⟩ := ⟨hp, hs⟩
    refine ⟨_, rfl, _, rfl, _, rfl, _, _, _, wd, ⟨p, s, false⟩, r, B, rfl, hH.mono e1, hX, hT.mono e1, ww, ox, ro, hB, fun va H1 e2 hd => ?_⟩
    refine ⟨_, rfl, rfl, _, rfl, ?_⟩
    rcases hd with ⟨c, rfl, hs1⟩ | ⟨a, hs1, hAd, wa⟩
    · refine if_f rfl ?_
      refine k.go (e1.trans e2) ?_
      unfold turnsB
      rw [hs1]
    · refine if_t (by rw [act_not_none hAd]; rfl) ?_
      refine ⟨_, rfl, _, rfl, _, rfl, _, _, p, _, _, rfl, hAd, hX.mono e2, fun vb H2 e3 hb => ?_⟩
      obtain ⟨b, rfl, hb⟩ := hb
      refine ⟨b, _, _, _, rfl, rfl, sqT hb, rfl, _, rfl, rfl, k.go ((e1.trans e2).trans e3) ?_⟩
      unfold turnsB
      rw [hs1]
      show V.bl (!decide (V.int _ = V.int _)) = .bl (_ != _)
      congr 1
      by_cases c : (Kp379.behind ⟨p, s, false⟩ (Kp379.actAt wd p a) p).s = s
      · rw [c]
        simp
      · rw [decide_eq_false (fun z => c (by have := V.int.inj z; exact Int.ofNat_inj.mp this))]
        symm
        simpa using c
/-! ### never_turns -/
def neverB (wd : Kp379.World) (s k : Nat) : Bool := (List.range k).all fun t => (Kp379.turnsAt wd s (t + 1)).isEmpty
def sp_never_turns (n : Nm) : Sp := fun vs H Q _ => ∃ (v vw : V) (wd : Kp379.World) (s st k : Nat), vs = [v, .int (s : Int), .int (st : Int), vw] ∧ HRead n wd v H ∧ IsTabs wd k vw H ∧ WfW wd ∧ s < wd.v ∧ st ≤ k ∧ k ≤ 4 ∧ RetR (fun v _ => v = .bl (neverB wd s st)) H Q
theorem ok_never_turns (D : Ds n K mg) : FnOk P w K mg base CX0 8 n.f_never_turns n.fd_never_turns P_never_turns (sp_never_turns n) := by
  have G_turns_there := ok_turns_there (P := P) (w := w) (base := base) D
  refine D.d_never_turns.F.ok sc_never_turns (fun vs H Q E h => ?_) (fun cdv A outer sh H vs Q E hr h => ?_)
  · obtain ⟨v, vw, wd, s, st, k, rfl, _⟩ := h
    rfl
  · obtain ⟨v, vw, wd, s, st, k, rfl, hH, hW, ww, hs, hst, hk, kQ⟩ := h
    refine ⟨_, (pss_cons (ps_for PassesOwn.never rfl (pi_range1 (by rfl) D.n_range (pa_cons (pv 2) pa_nil)) (pg_name (i := 4) sc_never_turns.nd rfl (Or.inr rfl))
        (pss_one (ps_if (pt_val (pe_callB (cr_any rfl) (by rfl) D.n_any (by decide +kernel) (pa_cons (pe_lc (own := [("place", 5)]) (g := gName 5) (tt := tYes) rfl sc_never_turns.nd (pi_range1 (by rfl) D.n_range (pa_cons (pe_fld (pv 0) rfl) pa_nil)) (blkOk_by (own := [("place", 5)]) (N := N_never_turns) (sc := defScope s_never_turns) (by decide +kernel)) (fun _ _ _ _ _ => (pg_name (i := 5) sc_never_turns.nd rfl (Or.inl rfl))) (fun _ _ _ _ _ => pts_nil) (fun _ _ _ _ _ => (pe_call G_turns_there (hr.mono (by decide)) rfl D.d_turns_there.g D.d_turns_there.F.kp D.d_turns_there.b .nil pass0 (pa_cons (pv 0) (pa_cons (pv 5) (pa_cons (pv 1) (pa_cons (pe_ix (r := rIxL K) ix_list (pv 3) (pv 4) (fun _ _ => rfl)) pa_nil))))))) pa_nil)))
          (pss_one (ps_ret pe_bl))
          pss_nil)))
      (pss_one (ps_ret pe_bl))), ?_⟩
    have nn : ((st : Int)).toNat = st := by omega
    have n4 := ww.n4
    refine ⟨_, rfl, (st : Int), rfl, by omega, by omega, for_range (lo := 0) (n := ((st : Int)).toNat) (fun i σ H' => Ex H H' ∧ neverB wd s i = true ∧ ∃ o4 : Option V, σ = [some v, some (.int (s : Int)), some (.int (st : Int)), some vw, o4, none]) ⟨Evl.Ex.refl _, rfl, none, rfl⟩ ?_ ?_⟩
    · rintro i σ H1 hi ⟨e1, hn, o4, rfl⟩
      have ei : (0 : Int) + (i : Int) = (i : Int) := by omega
      obtain ⟨pw, vws, rfl, hpw, hlw, hjw⟩ := hW
      obtain ⟨u, hu, tu⟩ := hjw i (by omega)
      obtain ⟨p, dx, fs, vas, rfl, hp, f1, f2, f3, _⟩ := hH.mono e1
      refine ⟨_, rfl, p, n.C_House, dx, _, _, rfl, hp, D.c_House.cl, D.House_places, f1, (wd.n : Int), rfl, by omega, by omega, fun Dl hD => ?_⟩
      have mm : ((wd.n : Int)).toNat = wd.n := by omega
      refine lc_range (lo := 0) (n := ((wd.n : Int)).toNat) (fun j H2 => Ex H1 H2 ∧ H2 Dl = some (.lst (((List.range j).map (turnsB wd (Kp379.rowAt wd i) s)).map V.bl))) ⟨Evl.Ex.new hD, upd_same⟩ ?_ ?_
      · rintro j H2 hj ⟨e2, h2⟩
        have ej : (0 : Int) + (j : Int) = (j : Int) := by omega
        refine ⟨rfl, ?_⟩
        refine ⟨_, rfl, _, rfl, _, rfl, _, rfl, _, rfl, pw, _, _, _, rfl, rfl, sqL ((e1.trans e2) _ _ hpw), at_of ei hu, ?_⟩
        refine ⟨_, _, wd, j, s, Kp379.rowAt wd i, bt i, by rw [ej]; rfl, hH.mono (e1.trans e2), tu.mono (e1.trans e2), ww, by omega, hs, rowOk ww i, bt_le (by omega), fun vb H3 e3 hb => ?_⟩
        subst hb
        refine ⟨_, e3 _ _ h2, small1000 (by simp; omega), Evl.Ex.mut (e2.trans e3) hD, ?_⟩
        rw [range_map_succ, List.map_append, upd_same]
        rfl
      · rintro H2 ⟨e2, h2⟩
        rw [mm] at h2
        refine ⟨Dl, _, rfl, sqL h2, _, rfl, ?_⟩
        have ea : ((List.range wd.n).map (turnsB wd (Kp379.rowAt wd i) s)).any id = (List.range wd.n).any (turnsB wd (Kp379.rowAt wd i) s) := by
          rw [List.any_map]
          rfl
        have et := turnsAt_empty (wd := wd) hs i
        refine if_c (fun c => ?_) (fun c => ?_)
        · refine kQ.go (e1.trans e2) ?_
          rw [ea] at c
          rw [c] at et
          have : neverB wd s st = false := by
            unfold neverB
            rw [List.all_eq_false]
            exact ⟨i, List.mem_range.mpr (by omega), by rw [et]; decide⟩
          rw [this]
        · rw [ea] at c
          rw [c] at et
          refine ⟨e1.trans e2, ?_, _, rfl⟩
          unfold neverB at hn ⊢
          rw [List.range_succ, List.all_append, hn, Bool.true_and]
          simp [et]
    · rintro σ H1 ⟨e1, hn, o4, rfl⟩
      rw [nn] at hn
      exact kQ.go e1 (by rw [hn])
end
end CI
namespace CI
open PySem PySem.Spec PyProof.Rows L2
open Evl (Ex fresh_back)
open Kp340 (Fr fr)
open Kp379 (Stand)
/-- the dict of stands that were found -/
def Found (d : Addr) (ys : List Stand) (m : Nat) (H : Hp) : Prop := ∃ kvs : List (List Key × V), H d = some (.dT kvs) ∧ kvs.map (·.1) = ys.map sk ∧ ys.length ≤ m
theorem Found.mono {d : Addr} {ys : List Stand} {m : Nat} {H H' : Hp} (e : Ex H H') (f : Found d ys m H) : Found d ys m H' := by
  obtain ⟨kvs, h1, h2, h3⟩ := f
  exact ⟨kvs, e _ _ h1, h2, h3⟩
theorem Found.put {d b : Addr} {ys : List Stand} {m : Nat} {H : Hp} {x : Stand} (f : Found d ys m H) (hm : m < 900) (hb : H b = some (.tup (standV x))) : ∃ o, DPut H d (.ref b) (.bl true) (upd H d o) ∧ ∃ ys', Found d ys' (m + 1) (upd H d o) ∧ ∀ y, y ∈ ys' ↔ y ∈ ys ∨ y = x := by
  obtain ⟨kvs, h1, h2, h3⟩ := f
  have hl : kvs.length = ys.length := by
    have := congrArg List.length h2
    simpa using this
  obtain ⟨ys', k1, k2, k3⟩ := putK_keys (x := x) (v := .bl true) h2
  exact ⟨_, DPut.t (k := sk x) h1 hb (small1000 (by omega)), ys', ⟨_, upd_same, k1, by omega⟩, k2⟩
section
variable {P : Program} {w : World} {K : PySem.W.Frag} {mg : Str → Option Value} {base : Heap} {n : Nm}
/-! ### stands_behind -/
def BehindR (wd : Kp379.World) (r : Kp379.Row) (xs : List Stand) (v : V) (H : Hp) : Prop := ∃ ys, IsLst IsStand ys v H ∧ ys.length ≤ 4 * xs.length ∧ ∀ y, y ∈ ys ↔ ∃ z, z ∈ xs ∧ moves wd r z y
def sp_stands_behind (n : Nm) : Sp := fun vs H Q _ => ∃ (v vl vt : V) (wd : Kp379.World) (r : Kp379.Row) (B : Nat) (xs : List Stand), vs = [v, vl, vt] ∧ HRead n wd v H ∧ IsLst IsStand xs vl H ∧ IsTab wd r vt H ∧ WfW wd ∧ (∀ x ∈ xs, OkS wd x) ∧ xs.length ≤ 100 ∧ RowOk wd B r ∧ B ≤ 900 ∧ RetR (BehindR wd r xs) H Q
theorem take_mem_succ {α : Type} {l : List α} {i : Nat} {x : α} (h : l[i]? = some x) (z : α) : z ∈ l.take (i + 1) ↔ z ∈ l.take i ∨ z = x := by
  rw [List.take_add_one, h]
  simp
theorem ok_stands_behind (D : Ds n K mg) : FnOk P w K mg base CX0 7 n.f_stands_behind n.fd_stands_behind P_stands_behind (sp_stands_behind n) := by
  have G_act_done := ok_act_done (P := P) (w := w) (base := base) D
  have G_stand_behind := ok_stand_behind (P := P) (w := w) (base := base) D
  refine D.d_stands_behind.F.ok sc_stands_behind (fun vs H Q E h => ?_) (fun cdv A outer sh H vs Q E hr h => ?_)
  · obtain ⟨v, vl, vt, wd, r, B, xs, rfl, _⟩ := h
    rfl
  · obtain ⟨v, vl, vt, wd, r, B, xs, rfl, hH, hL, hT, ww, ho, hl, ro, hB, kQ⟩ := h
    refine ⟨_, (pss_cons (ps_set (i := 3) sc_stands_behind.nd rfl (Or.inl rfl) pe_dnewT)
      (pss_cons (ps_for PassesOwn.never rfl (pi_list (pv 1)) (pg_name (i := 4) sc_stands_behind.nd rfl (Or.inl rfl))
        (pss_cons (ps_set (i := 5) sc_stands_behind.nd rfl (Or.inl rfl) (pe_call G_act_done (hr.mono (by decide)) rfl D.d_act_done.g D.d_act_done.F.kp D.d_act_done.b .nil pass0 (pa_cons (pv 0) (pa_cons (pv 4) (pa_cons (pv 2) pa_nil)))))
        (pss_one (ps_if (pt_cmpR op_isN (pv 5) pe_non (nomark _))
          (pss_one (ps_dput (hu_of hr) (pv 3) (pv 4) pe_bl rfl))
          (pss_one (ps_for PassesOwn.never rfl (pi_enum (by rfl) D.n_enumerate (pa_cons (pe_fld (pv 5) rfl) pa_nil)) (pg_tup rfl (pgs_cons (pg_name (i := 6) sc_stands_behind.nd rfl (Or.inl rfl)) (pgs_cons (pg_name (i := 7) sc_stands_behind.nd rfl (Or.inl rfl)) pgs_nil)))
            (pss_one (ps_if (pt_cmpR op_gt (pv 7) pe_int (nomark _))
              (pss_one (ps_dput (hu_of hr) (pv 3) (pe_call G_stand_behind (hr.mono (by decide)) rfl D.d_stand_behind.g D.d_stand_behind.F.kp D.d_stand_behind.b .nil pass0 (pa_cons (pv 5) (pa_cons (pv 4) (pa_cons (pv 6) pa_nil)))) pe_bl rfl))
              pss_nil))))))))
      (pss_one (ps_ret (pe_callTy (call_list_dT rfl) (by rfl) D.n_list (by decide +kernel) (pa_cons (pv 3) pa_nil)))))), ?_⟩
    intro d hd
    have e0 : Ex H (upd H d (.dT [])) := Evl.Ex.new hd
    obtain ⟨pl, vls, rfl, hpl, hE⟩ := hL
    refine ⟨_, rfl, pl, rfl, ⟨vls, sqL (e0 _ _ hpl)⟩, for_list (K := K) (a := pl) (xs := vls) (fun i σ H' => Ex H H' ∧ ∃ (ys : List Stand) (o4 o5 o6 o7 : Option V), Found d ys (4 * i) H' ∧ (∀ y, y ∈ ys ↔ ∃ z, z ∈ xs.take i ∧ moves wd r z y) ∧ σ = [some v, some (.ref pl), some vt, some (.ref d), o4, o5, o6, o7])
      ⟨e0, [], none, none, none, none, ⟨[], upd_same, rfl, Nat.zero_le _⟩, fun y => by simp, rfl⟩ (fun i σ H' _ h => sqL (h.1 _ _ hpl)) ?_ ?_⟩
    · rintro i y σ H1 hi ⟨e1, ys, o4, o5, o6, o7, hF, hm, rfl⟩
      obtain ⟨x, hx, hX⟩ := hE.back hi
      have il := (List.getElem?_eq_some_iff.mp hx).1
      have ox := ho x (List.mem_of_getElem? hx)
      have hX1 := hX.mono e1
      refine ⟨_, rfl, _, rfl, _, rfl, _, _, _, wd, x, r, B, rfl, hH.mono e1, hX1, hT.mono e1, ww, ox, ro, hB, fun va H2 e2 hd2 => ?_⟩
      refine ⟨_, rfl, rfl, _, rfl, ?_⟩
      rcases hd2 with ⟨c, rfl, hs⟩ | ⟨a, hs, hAd, wa⟩
      · refine if_t rfl ?_
        obtain ⟨b, rfl, hb⟩ := hX1
        obtain ⟨o, hput, ys', f1, f2⟩ := (hF.mono e2).put (x := x) (by omega) (e2 _ _ hb)
        refine ⟨_, rfl, _, rfl, d, _, rfl, hput, Evl.Ex.mut (e1.trans e2) hd, ys', _, _, _, _, ?_, fun y => ?_, rfl⟩
        · obtain ⟨kvs, g1, g2, g3⟩ := f1
          exact ⟨kvs, g1, g2, by omega⟩
        · rw [f2, hm]
          constructor
          · rintro (⟨z, z1, z2⟩ | z)
            · exact ⟨z, (take_mem_succ hx z).mpr (Or.inl z1), z2⟩
            · exact ⟨x, (take_mem_succ hx x).mpr (Or.inr rfl), by unfold moves; rw [hs]; exact z⟩
          · rintro ⟨z, z1, z2⟩
            rcases (take_mem_succ hx z).mp z1 with z3 | z3
            · exact Or.inl ⟨z, z3, z2⟩
            · subst z3
              unfold moves at z2
              rw [hs] at z2
              exact Or.inr z2
      · refine if_f (act_not_none hAd) ?_
        have hAd0 := hAd
        obtain ⟨p, dx, pp, pw, rfl, hp, hpp, hpw⟩ := hAd0
        have nl : (natV (Kp379.actAt wd x.p a).to).length = wd.n := by unfold natV; rw [List.length_map]; exact wa.wl
        have n4 := ww.n4
        obtain ⟨kv2, hd2, _⟩ := hF.mono e2
        have np : p ≠ d := ne_of hp hd2 (by intro z; cases z)
        have npp : pp ≠ d := ne_of hpp hd2 (by intro z; cases z)
        have npw : pw ≠ d := ne_of hpw hd2 (by intro z; cases z)
        refine ⟨_, rfl, p, n.C_Act, dx, _, _, rfl, hp, D.c_Act.cl, D.Act_weights, actF_weights, pw, natV (Kp379.actAt wd x.p a).to, rfl, sqL hpw, for_it walk_enum (fun j σ H' => (∀ b o, H2 b = some o → b ≠ d → H' b = some o) ∧ ∃ (zs : List Stand) (o6 o7 : Option V), Found d zs (4 * i + j) H' ∧ (∀ y, y ∈ zs ↔ y ∈ ys ∨ ∃ q, q < j ∧ 0 < (Kp379.actAt wd x.p a).to.getD q 0 ∧ y = Kp379.behind x (Kp379.actAt wd x.p a) q) ∧ σ = [some v, some (.ref pl), some vt, some (.ref d), some y, some (.ref p), o6, o7])
          ⟨fun b o hb _ => hb, ys, o6, o7, hF.mono e2, fun y => ⟨Or.inl, fun z => z.elim id fun ⟨q, h1, _⟩ => absurd h1 (Nat.not_lt_zero _)⟩, rfl⟩ (fun j σ H' _ h => sqL (h.1 _ _ hpw npw)) ?_ ?_⟩
        · rintro j u σ H3 H4 hj ⟨k3, zs, o6, o7, f3, m3, rfl⟩ ⟨Tp, y1, y2, rfl, hTp, rfl, e3, e4⟩
          obtain rfl : V.int (j : Int) = y1 := Option.some.inj e3
          obtain ⟨hjl, rfl⟩ := natV_get e4
          have hjn : j < wd.n := by omega
          have eT : Ex H3 (upd H3 Tp (.tup [.int (j : Int), .int (((Kp379.actAt wd x.p a).to.getD j 0 : Nat) : Int)])) := Evl.Ex.new hTp
          have kT : ∀ b o, H2 b = some o → b ≠ d → (upd H3 Tp (.tup [.int (j : Int), .int (((Kp379.actAt wd x.p a).to.getD j 0 : Nat) : Int)])) b = some o := fun b o hb nb => eT _ _ (k3 b o hb nb)
          refine ⟨Tp, _, rfl, sqT upd_same, rfl, _, _, rfl, _, _, rfl, rfl, ?_⟩
          refine ⟨_, rfl, _, _, rfl, rfl, _, rfl, ?_⟩
          refine if_c (fun c => ?_) (fun c => ?_)
          · have hpos : 0 < (Kp379.actAt wd x.p a).to.getD j 0 := by have := of_decide_eq_true c; omega
            obtain ⟨b, rfl, hb⟩ := hX1
            have nb : b ≠ d := ne_of (e2 _ _ hb) hd2 (by intro z; cases z)
            refine ⟨_, rfl, _, rfl, _, rfl, _, rfl, _, _, j, _, x, rfl, ⟨p, dx, pp, pw, rfl, kT _ _ hp np, kT _ _ hpp npp, kT _ _ hpw npw⟩, ⟨b, rfl, kT _ _ (e2 _ _ hb) nb⟩, fun vb H5 e5 hv => ?_⟩
            obtain ⟨bq, rfl, hbq⟩ := hv
            obtain ⟨o, hput, ys', f1, f2⟩ := ((f3.mono eT).mono e5).put (x := Kp379.behind x (Kp379.actAt wd x.p a) j) (by omega) hbq
            refine ⟨d, _, rfl, hput, fun b' o' hb' nb' => by rw [upd_ne nb']; exact e5 _ _ (kT _ _ hb' nb'), ys', _, _, f1, fun y => ?_, rfl⟩
            rw [f2, m3]
            constructor
            · rintro ((z | ⟨q, z1, z2, z3⟩) | z)
              · exact Or.inl z
              · exact Or.inr ⟨q, by omega, z2, z3⟩
              · exact Or.inr ⟨j, by omega, hpos, z⟩
            · rintro (z | ⟨q, z1, z2, z3⟩)
              · exact Or.inl (Or.inl z)
              · by_cases cq : q = j
                · subst cq
                  exact Or.inr z3
                · exact Or.inl (Or.inr ⟨q, by omega, z2, z3⟩)
          · refine ⟨kT, zs, _, _, ?_, fun y => ?_, rfl⟩
            · obtain ⟨kvs, g1, g2, g3⟩ := f3.mono eT
              exact ⟨kvs, g1, g2, by omega⟩
            · rw [m3]
              constructor
              · rintro (z | ⟨q, z1, z2, z3⟩)
                · exact Or.inl z
                · exact Or.inr ⟨q, by omega, z2, z3⟩
              · rintro (z | ⟨q, z1, z2, z3⟩)
                · exact Or.inl z
                · refine Or.inr ⟨q, ?_, z2, z3⟩
                  by_cases cq : q = j
                  · subst cq
                    have := of_decide_eq_false c
                    omega
                  · omega
        · rintro σ H3 ⟨k3, zs, o6, o7, f3, m3, rfl⟩
          rw [nl] at f3 m3
          have eH : Ex H H3 := fun b o hb => k3 b o ((e1.trans e2) _ _ hb) fun z => by
            rw [z, hd] at hb
            cases hb
          refine ⟨eH, zs, _, _, _, _, ?_, fun y => ?_, rfl⟩
          · obtain ⟨kvs, g1, g2, g3⟩ := f3
            exact ⟨kvs, g1, g2, by omega⟩
          · rw [m3, hm]
            constructor
            · rintro (⟨z, z1, z2⟩ | z)
              · exact ⟨z, (take_mem_succ hx z).mpr (Or.inl z1), z2⟩
              · exact ⟨x, (take_mem_succ hx x).mpr (Or.inr rfl), by unfold moves; rw [hs]; exact z⟩
            · rintro ⟨z, z1, z2⟩
              rcases (take_mem_succ hx z).mp z1 with z3 | z3
              · exact Or.inl ⟨z, z3, z2⟩
              · subst z3
                unfold moves at z2
                rw [hs] at z2
                exact Or.inr z2
    · rintro σ H1 ⟨e1, ys, o4, o5, o6, o7, hF, hm, rfl⟩
      obtain ⟨kvs, h1, h2, h3⟩ := hF
      refine ⟨_, rfl, d, kvs, rfl, Or.inl h1, fun p bs hp hk => ?_⟩
      refine kQ.go (e1.trans (Evl.Ex.new hp)) ⟨ys, ⟨p, _, rfl, upd_same, (keys_each hk h2).mono fun a v h => h.mono (Evl.Ex.new hp)⟩, ?_, fun y => ?_⟩
      · rw [← hE.1]
        exact h3
      · rw [hm, hE.1, List.take_length]
/-! ### surely_stays -/
def sp_surely_stays (n : Nm) : Sp := fun vs H Q _ => ∃ (v vw : V) (wd : Kp379.World) (s p st k : Nat), vs = [v, .int (s : Int), .int (p : Int), .int (st : Int), vw] ∧ HRead n wd v H ∧ IsTabs wd k vw H ∧ WfW wd ∧ s < wd.v ∧ p < wd.n ∧ st ≤ k ∧ k ≤ 4 ∧ RetR (fun v _ => v = .bl (Kp381.stays wd s p st)) H Q
theorem pow4 {i : Nat} (h : i ≤ 3) : 4 ^ i ≤ 64 := by
  match i, h with
  | 0, _ => decide
  | 1, _ => decide
  | 2, _ => decide
  | 3, _ => decide
theorem ok_surely_stays (D : Ds n K mg) : FnOk P w K mg base CX0 8 n.f_surely_stays n.fd_surely_stays P_surely_stays (sp_surely_stays n) := by
  have G_stands_behind := ok_stands_behind (P := P) (w := w) (base := base) D
  refine D.d_surely_stays.F.ok sc_surely_stays (fun vs H Q E h => ?_) (fun cdv A outer sh H vs Q E hr h => ?_)
  · obtain ⟨v, vw, wd, s, p, st, k, rfl, _⟩ := h
    rfl
  · obtain ⟨v, vw, wd, s, p, st, k, rfl, hH, hW, ww, hs, hp, hst, hk, kQ⟩ := h
    refine ⟨_, (pss_cons (ps_set (i := 5) sc_surely_stays.nd rfl (Or.inl rfl) (pe_lst (pa_cons (pe_tup (pa_cons (pv 2) (pa_cons (pv 1) (pa_cons pe_int pa_nil)))) pa_nil)))
      (pss_cons (ps_for PassesOwn.never rfl (pi_range1 (by rfl) D.n_range (pa_cons (pv 3) pa_nil)) (pg_name (i := 6) sc_surely_stays.nd rfl (Or.inl rfl))
        (pss_cons (ps_set (i := 5) sc_surely_stays.nd rfl (Or.inl rfl) (pe_call G_stands_behind (hr.mono (by decide)) rfl D.d_stands_behind.g D.d_stands_behind.F.kp D.d_stands_behind.b .nil pass0 (pa_cons (pv 0) (pa_cons (pv 5) (pa_cons (pe_ix ix_list (pv 4) (pe_op op_sub (pe_op op_sub (pv 3) (pv 6)) pe_int) (fun _ _ => rfl)) pa_nil)))))
        (pss_one (ps_if (pt_val (pe_callB (cr_any rfl) (by rfl) D.n_any (by decide +kernel) (pa_cons (pe_lc (own := [("stand", 7)]) (g := gName 7) (tt := tYes) rfl sc_surely_stays.nd (pi_list (pv 5)) (blkOk_by (own := [("stand", 7)]) (N := N_surely_stays) (sc := defScope s_surely_stays) (by decide +kernel)) (fun _ _ _ _ _ => (pg_name (i := 7) sc_surely_stays.nd rfl (Or.inl rfl))) (fun _ _ _ _ _ => pts_nil) (fun _ _ _ _ _ => (pe_cmpR op_ne (pe_ix (r := rIxT K) ix_tup (pv 7) pe_int (fun _ _ => rfl)) (pv 1) (nomark _)))) pa_nil)))
          (pss_one (ps_ret pe_bl))
          pss_nil))))
      (pss_one (ps_ret pe_bl)))), ?_⟩
    have nn : ((st : Int)).toNat = st := by omega
    have fine := fine_of ww
    refine ⟨_, rfl, _, rfl, by show 3 ≤ sizeLine; decide, fun t ht => ?_⟩
    have e1 : Ex H (upd H t (.tup [.int (p : Int), .int (s : Int), .int 0])) := Evl.Ex.new ht
    refine ⟨by show 1 ≤ sizeLine; decide, fun l hl => ?_⟩
    have e2 := Evl.Ex.new (o := .lst [.ref t]) hl
    have E0 : Each IsStand [⟨p, s, false⟩] [.ref t] (upd (upd H t (.tup [.int (p : Int), .int (s : Int), .int 0])) l (.lst [.ref t])) := by
      have h1 := Each.snoc (l := []) (vs := []) (a := (⟨p, s, false⟩ : Stand)) (v := .ref t) (H := upd (upd H t (.tup [.int (p : Int), .int (s : Int), .int 0])) l (.lst [.ref t])) (R := IsStand) Each.nil ⟨t, rfl, e2 _ _ upd_same⟩
      exact h1
    refine ⟨_, rfl, (st : Int), rfl, by omega, by omega, for_range (lo := 0) (n := ((st : Int)).toNat) (fun i σ H' => Ex H H' ∧ ∃ (xs : List Stand) (vl : V) (o6 : Option V), IsLst IsStand xs vl H' ∧ xs.length ≤ 4 ^ i ∧ (∀ y, y ∈ xs ↔ Ok wd y ∧ may wd ⟨p, s, false⟩ st i y) ∧ (∀ t, t ≤ i → ∀ y, Ok wd y → may wd ⟨p, s, false⟩ st t y → y.s = s) ∧ σ = [some v, some (.int (s : Int)), some (.int (p : Int)), some (.int (st : Int)), some vw, some vl, o6, none])
      ⟨e1.trans e2, [⟨p, s, false⟩], .ref l, none, ⟨l, _, rfl, upd_same, E0⟩, by simp, fun y => ?_, fun t ht y _ hm => ?_, rfl⟩ ?_ ?_⟩
    · constructor
      · intro z
        have : y = ⟨p, s, false⟩ := by simpa using z
        rw [this]
        exact ⟨⟨hp, hs⟩, rfl⟩
      · rintro ⟨_, z⟩
        rw [show y = ⟨p, s, false⟩ from z]
        exact List.mem_cons_self
    · have : t = 0 := by omega
      subst this
      rw [show y = ⟨p, s, false⟩ from hm]
    · rintro i σ H1 hi ⟨x1, xs, vl, o6, hL, hlen, hmem, hall, rfl⟩
      have ei : (0 : Int) + (i : Int) = (i : Int) := by omega
      have i4 : 4 ^ i ≤ 64 := pow4 (by omega)
      obtain ⟨pw, vws, rfl, hpw, hlw, hjw⟩ := hW
      obtain ⟨u, hu, tu⟩ := hjw (st - i - 1) (by omega)
      have eix : (st : Int) - ((0 : Int) + (i : Int)) - 1 = ((st - i - 1 : Nat) : Int) := by omega
      refine ⟨_, rfl, _, rfl, _, rfl, _, rfl, _, rfl, _, _, rfl, rfl, _, _, rfl, rfl, pw, _, _, _, rfl, rfl, sqL (x1 _ _ hpw), at_of eix hu, ?_⟩
      refine ⟨_, _, _, wd, Kp379.rowAt wd (st - i - 1), bt (st - i - 1), xs, rfl, hH.mono x1, hL, tu.mono x1, ww, fun x hx => ((hmem x).mp hx).1, by omega, rowOk ww _, bt_le (by omega), fun vb H2 x2 hb => ?_⟩
      obtain ⟨ys, hY, hyl, hym⟩ := hb
      -- the next stands
      have next : ∀ y, y ∈ ys ↔ Ok wd y ∧ may wd ⟨p, s, false⟩ st (i + 1) y := by
        intro y
        rw [hym]
        have ej : st - i = st - i - 1 + 1 := by omega
        constructor
        · rintro ⟨z, z1, z2⟩
          obtain ⟨oz, mz⟩ := (hmem z).mp z1
          refine ⟨moves_ok ww oz z2, z, oz, mz, ?_⟩
          rw [ej]
          exact (moves_is ww oz).mpr z2
        · rintro ⟨oy, z, oz, mz, hmv⟩
          rw [ej] at hmv
          exact ⟨z, (hmem z).mpr ⟨oz, mz⟩, (moves_is ww oz).mp hmv⟩
      obtain ⟨py, vys, rfl, hpy, hEy⟩ := hY
      have x12 := x1.trans x2
      refine ⟨_, rfl, py, rfl, ⟨vys, sqL hpy⟩, fun Dl hD => ?_⟩
      refine lc_list (K := K) (a := py) (xs := vys) (fun j H3 => Ex H2 H3 ∧ H3 Dl = some (.lst (((ys.take j).map fun y => y.s != s).map V.bl))) ⟨Evl.Ex.new hD, upd_same⟩ (fun j H3 _ h => sqL (h.1 _ _ hpy)) ?_ ?_
      · rintro j u2 H3 hj ⟨x3, h3⟩
        obtain ⟨y, hy, hY⟩ := hEy.back hj
        obtain ⟨b, rfl, hb⟩ := hY
        have jl := (List.getElem?_eq_some_iff.mp hy).1
        refine ⟨rfl, ?_⟩
        refine ⟨_, rfl, b, _, _, _, rfl, rfl, sqT (x3 _ _ hb), rfl, _, rfl, rfl, _, h3, small1000 (by simp; omega), Evl.Ex.mut x3 hD, ?_⟩
        rw [upd_same, List.take_add_one, hy]
        show some (HO.lst (_ ++ [V.bl (!decide (V.int (y.s : Int) = V.int (s : Int)))])) = some (HO.lst (List.map V.bl (List.map _ (List.take j ys ++ [y]))))
        have eb : (!decide (V.int (y.s : Int) = V.int (s : Int))) = (y.s != s) := by
          by_cases c : y.s = s
          · rw [c]
            simp
          · rw [decide_eq_false (fun z => c (by have := V.int.inj z; exact Int.ofNat_inj.mp this))]
            symm
            simpa using c
        rw [eb, List.map_append, List.map_append]
        rfl
      · rintro H3 ⟨x3, h3⟩
        rw [hEy.1, List.take_length] at h3
        refine ⟨Dl, _, rfl, sqL h3, _, rfl, ?_⟩
        refine if_c (fun c => ?_) (fun c => ?_)
        · refine kQ.go (x12.trans x3) ?_
          have : Kp381.stays wd s p st = false := by
            rw [Bool.eq_false_iff]
            intro z
            rw [stays_may fine] at z
            rw [List.any_eq_true] at c
            obtain ⟨bb, hbb, c2⟩ := c
            obtain ⟨y, hy, rfl⟩ := List.mem_map.mp hbb
            obtain ⟨oy, my⟩ := (next y).mp hy
            have := z (i + 1) (by omega) y oy my
            rw [this] at c2
            simp at c2
          rw [this]
        · refine ⟨x12.trans x3, ys, _, _, ⟨py, vys, rfl, x3 _ _ hpy, hEy.mono fun a v h => h.mono x3⟩, ?_, next, fun t' ht' y oy my => ?_, rfl⟩
          · rw [Nat.pow_succ]
            omega
          · by_cases ct : t' ≤ i
            · exact hall t' ct y oy my
            · have : t' = i + 1 := by omega
              subst this
              have hy := (next y).mpr ⟨oy, my⟩
              rw [List.any_eq_false] at c
              have c2 := c (y.s != s) (List.mem_map.mpr ⟨y, hy, rfl⟩)
              simpa using c2
    · rintro σ H1 ⟨x1, xs, vl, o6, hL, hlen, hmem, hall, rfl⟩
      rw [nn] at hall
      refine kQ.go x1 ?_
      rw [(stays_may fine).mpr hall]
end
end CI
/-! Whether promises are kept. -/
namespace CI
open PySem PySem.Spec PyProof.Rows L2
open Evl (Ex fresh_back)
open Kp340 (Fr fr)
open Kp379 (Stand)
section
variable {P : Program} {w : World} {K : PySem.W.Frag} {mg : Str → Option Value} {base : Heap} {n : Nm}
/-! ### is_kept -/
def sp_is_kept (n : Nm) : Sp := fun vs H Q _ => ∃ (v vq vw : V) (wd : Kp379.World) (q : Kp381.Promise) (k : Nat), vs = [v, vq, vw] ∧ HRead n wd v H ∧ IsProm q vq H ∧ IsTabs wd k vw H ∧ WfW wd ∧ WfP wd q ∧ q.k ≤ k ∧ k ≤ 4 ∧ RetR (fun v _ => v = .bl (Kp381.kept wd q)) H Q
theorem int_eq {a : Nat} {z : Int} {b : Nat} (h : z = (b : Int)) : decide (V.int (a : Int) = V.int z) = decide (a = b) := by
  subst h
  by_cases c : a = b
  · rw [c]
    simp
  · rw [decide_eq_false c, decide_eq_false (fun z => c (by have := V.int.inj z; exact Int.ofNat_inj.mp this))]
theorem ok_is_kept (D : Ds n K mg) : FnOk P w K mg base CX0 9 n.f_is_kept n.fd_is_kept P_is_kept (sp_is_kept n) := by
  have G_never_turns := ok_never_turns (P := P) (w := w) (base := base) D
  have G_surely_stays := ok_surely_stays (P := P) (w := w) (base := base) D
  have G_is_less := ok_is_less (P := P) (w := w) (base := base) D
  refine D.d_is_kept.F.ok sc_is_kept (fun vs H Q E h => ?_) (fun cdv A outer sh H vs Q E hr h => ?_)
  · obtain ⟨v, vq, vw, wd, q, k, rfl, _⟩ := h
    rfl
  · obtain ⟨v, vq, vw, wd, q, k, rfl, hH, hq, hW, ww, wq, hk, hk4, kQ⟩ := h
    refine ⟨_, (pss_cons (ps_set (i := 3) sc_is_kept.nd rfl (Or.inl rfl) (pe_ix ix_tup (pv 1) pe_int (fun _ _ => rfl)))
      (pss_cons (ps_set (i := 4) sc_is_kept.nd rfl (Or.inl rfl) (pe_ix ix_tup (pv 1) pe_int (fun _ _ => rfl)))
      (pss_cons (ps_set (i := 5) sc_is_kept.nd rfl (Or.inl rfl) (pe_ix ix_tup (pv 1) pe_int (fun _ _ => rfl)))
      (pss_cons (ps_set (i := 6) sc_is_kept.nd rfl (Or.inl rfl) (pe_ix ix_tup (pv 1) pe_int (fun _ _ => rfl)))
      (pss_cons (ps_set (i := 7) sc_is_kept.nd rfl (Or.inl rfl) (pe_ix ix_tup (pv 1) pe_int (fun _ _ => rfl)))
      (pss_cons (ps_set (i := 8) sc_is_kept.nd rfl (Or.inl rfl) (pe_ix ix_tup (pv 1) pe_int (fun _ _ => rfl)))
      (pss_cons (ps_if (pt_cmpR op_eq (pv 3) (pe_const rfl D.g_NEVER) (nomark _))
        (pss_one (ps_ret (pe_call G_never_turns (hr.mono (by decide)) rfl D.d_never_turns.g D.d_never_turns.F.kp D.d_never_turns.b .nil pass0 (pa_cons (pv 0) (pa_cons (pv 5) (pa_cons (pv 7) (pa_cons (pv 2) pa_nil)))))))
        pss_nil)
      (pss_cons (ps_if (pt_cmpR op_eq (pv 3) (pe_const rfl D.g_STAY) (nomark _))
        (pss_one (ps_ret (pe_call G_surely_stays (hr.mono (by decide)) rfl D.d_surely_stays.g D.d_surely_stays.F.kp D.d_surely_stays.b .nil pass0 (pa_cons (pv 0) (pa_cons (pv 5) (pa_cons (pv 6) (pa_cons (pv 7) (pa_cons (pv 2) pa_nil))))))))
        pss_nil)
      (pss_one (ps_ret (pe_not (pe_call G_is_less (hr.mono (by decide)) rfl D.d_is_less.g D.d_is_less.F.kp D.d_is_less.b .nil pass0 (pa_cons (pe_ix ix_list (pe_dget (hu_of hr) (pe_ix ix_list (pv 2) (pv 7) (fun _ _ => rfl)) (pe_tup (pa_cons (pv 6) (pa_cons (pv 5) (pa_cons pe_int pa_nil)))) (fun _ _ => rfl)) (pv 4) (fun _ _ => rfl)) (pa_cons (pe_tup (pa_cons (pv 8) (pa_cons pe_int pa_nil))) pa_nil)))))))))))))), ?_⟩
    obtain ⟨pq, rfl, hpq⟩ := hq
    refine ⟨_, rfl, pq, _, _, _, rfl, rfl, sqT hpq, rfl, ?_⟩
    refine ⟨_, rfl, pq, _, _, _, rfl, rfl, sqT hpq, rfl, ?_⟩
    refine ⟨_, rfl, pq, _, _, _, rfl, rfl, sqT hpq, rfl, ?_⟩
    refine ⟨_, rfl, pq, _, _, _, rfl, rfl, sqT hpq, rfl, ?_⟩
    refine ⟨_, rfl, pq, _, _, _, rfl, rfl, sqT hpq, rfl, ?_⟩
    refine ⟨_, rfl, pq, _, _, _, rfl, rfl, sqT hpq, rfl, ?_⟩
    refine ⟨_, rfl, rfl, _, rfl, ?_⟩
    refine if_c (fun c => ?_) (fun c => ?_)
    · rw [int_eq (z := 0) (b := 0) rfl] at c
      have c0 := of_decide_eq_true c
      refine ⟨_, rfl, _, rfl, _, rfl, _, rfl, _, _, wd, q.s, q.k, k, rfl, hH, hW, ww, wq.ps, hk, hk4, ?_⟩
      have e : Kp381.kept wd q = neverB wd q.s q.k := by
        unfold Kp381.kept
        rw [if_pos c0]
        rfl
      rw [← e]
      exact kQ
    · rw [int_eq (z := 0) (b := 0) rfl] at c
      have c0 := of_decide_eq_false c
      refine ⟨_, rfl, rfl, _, rfl, ?_⟩
      refine if_c (fun d => ?_) (fun d => ?_)
      · rw [int_eq (z := 1) (b := 1) rfl] at d
        have d0 := of_decide_eq_true d
        refine ⟨_, rfl, _, rfl, _, rfl, _, rfl, _, rfl, _, _, wd, q.s, q.p, q.k, k, rfl, hH, hW, ww, wq.ps, wq.pp, hk, hk4, ?_⟩
        have e : Kp381.kept wd q = Kp381.stays wd q.s q.p q.k := by
          unfold Kp381.kept
          rw [if_neg c0, if_pos d0]
        rw [← e]
        exact kQ
      · rw [int_eq (z := 1) (b := 1) rfl] at d
        have d0 := of_decide_eq_false d
        obtain ⟨pw, vws, rfl, hpw, hlw, hjw⟩ := hW
        obtain ⟨u, hu, pt, kvs, rfl, hpt, hrow⟩ := hjw q.k hk
        have ox : OkS wd ⟨q.p, q.s, false⟩ := ⟨wq.pp, wq.ps⟩
        obtain ⟨ul, hul, pl, vls, rfl, hpl, hEl⟩ := hrow _ ox
        obtain ⟨rl, rb⟩ := rowOk ww q.k _ ox
        have hget : (rowAtS wd (Kp379.rowAt wd q.k) ⟨q.p, q.s, false⟩)[q.u]? = some (Kp379.worth wd q.u ⟨q.p, q.s, false⟩ q.k) := by
          show _ = some ((rowAtS wd (Kp379.rowAt wd q.k) ⟨q.p, q.s, false⟩).getD q.u (0, 1))
          rw [List.getD_eq_getElem?_getD, List.getElem?_eq_getElem (by rw [rl]; exact wq.pu)]
          rfl
        obtain ⟨vf, hvf, hF⟩ := hEl.2 _ _ hget
        refine ⟨_, rfl, _, rfl, pw, _, _, _, rfl, rfl, sqL hpw, atI_nat hu, _, rfl, _, rfl, by show 3 ≤ sizeLine; decide, fun t ht => ?_⟩
        have e1 : Ex H (upd H t (.tup [.int (q.p : Int), .int (q.s : Int), .int 0])) := Evl.Ex.new ht
        refine ⟨pt, _, rfl, by rw [← hul]; exact DGet.t (e1 _ _ hpt) (upd_same : (upd H t (.tup (standV ⟨q.p, q.s, false⟩))) t = _), _, rfl, pl, _, _, _, rfl, rfl, sqL (e1 _ _ hpl), atI_nat hvf, _, rfl, by show 2 ≤ sizeLine; decide, fun t2 ht2 => ?_⟩
        have e2 := Evl.Ex.new (o := .tup [.int q.x, .int 1]) ht2
        have b1 : Bits 9000 (Kp379.worth wd q.u ⟨q.p, q.s, false⟩ q.k) := (rb q.u wq.pu).up (by have := bt4 (show q.k ≤ 4 by omega); omega)
        have b2 : Bits 9000 (Kp340.ofInt q.x) := by
          have h1 := wq.lo
          have h2 := wq.hi
          have h3 : 2 ^ 7 ≤ 2 ^ 9000 := Nat.pow_le_pow_right (by omega) (by omega)
          refine ⟨?_, ?_, show (0 : Int) < 1 by decide⟩
          · show q.x.natAbs < _
            omega
          · show (1 : Int).natAbs < _
            have : (1 : Int).natAbs = 1 := rfl
            omega
        refine ⟨_, _, _, _, rfl, (hF.mono e1).mono e2, ⟨t2, rfl, upd_same⟩, b1, b2, fun vb H3 e3 hb => ?_⟩
        subst hb
        have e : Kp381.kept wd q = !Kp346.ltF (Kp379.worth wd q.u ⟨q.p, q.s, false⟩ q.k) (Kp340.ofInt q.x) := by
          unfold Kp381.kept
          rw [if_neg c0, if_neg d0]
        refine ⟨_, rfl, kQ.go ((e1.trans e2).trans e3) ?_⟩
        rw [e]
/-! ### would_be_kept -/
def sp_would_be_kept (n : Nm) : Sp := fun vs H Q _ => ∃ (v vq : V) (wd : Kp379.World) (q : Kp381.Promise), vs = [v, vq] ∧ HRead n wd v H ∧ IsProm q vq H ∧ WfW wd ∧ WfP wd q ∧ RetR (fun v _ => v = .bl (Kp381.kept wd q)) H Q
theorem ok_would_be_kept (D : Ds n K mg) : FnOk P w K mg base CX0 10 n.f_would_be_kept n.fd_would_be_kept P_would_be_kept (sp_would_be_kept n) := by
  have G_is_kept := ok_is_kept (P := P) (w := w) (base := base) D
  have G_worth_tables := ok_worth_tables (P := P) (w := w) (base := base) D
  refine D.d_would_be_kept.F.ok sc_would_be_kept (fun vs H Q E h => ?_) (fun cdv A outer sh H vs Q E hr h => ?_)
  · obtain ⟨v, vq, wd, q, rfl, _⟩ := h
    rfl
  · obtain ⟨v, vq, wd, q, rfl, hH, hq, ww, wq, kQ⟩ := h
    refine ⟨_, (pss_one (ps_ret (pe_call G_is_kept (hr.mono (by decide)) rfl D.d_is_kept.g D.d_is_kept.F.kp D.d_is_kept.b .nil pass0 (pa_cons (pv 0) (pa_cons (pv 1) (pa_cons (pe_call G_worth_tables (hr.mono (by decide)) rfl D.d_worth_tables.g D.d_worth_tables.F.kp D.d_worth_tables.b .nil pass0 (pa_cons (pv 0) (pa_cons (pe_ix ix_tup (pv 1) pe_int (fun _ _ => rfl)) pa_nil))) pa_nil)))))), ?_⟩
    have hq' := hq
    obtain ⟨pq, rfl, hpq⟩ := hq'
    refine ⟨_, rfl, _, rfl, _, rfl, _, rfl, pq, _, _, _, rfl, rfl, sqT hpq, rfl, _, wd, q.k, rfl, hH, ww, wq.k4, fun vw H1 e1 hW => ?_⟩
    exact ⟨_, _, _, wd, q, q.k, rfl, hH.mono e1, hq.mono e1, hW, ww, wq, Nat.le_refl _, wq.k4, kQ.mono e1⟩
/-! ### all_are_kept -/
def sp_all_are_kept (n : Nm) : Sp := fun vs H Q _ => ∃ (ph dx po : Addr) (fs : List (Str × V)) (vps : List V) (wd : Kp379.World) (ps : List Kp381.Promise), vs = [.ref ph] ∧ H ph = some (.ins n.C_House dx fs) ∧ fs.lookup ("promises" : Str) = some (.ref po) ∧ H po = some (.lst vps) ∧ Each IsProm ps vps H ∧
  HRead n wd (.ref ph) H ∧ WfW wd ∧ (∀ q ∈ ps, WfP wd q) ∧ ps.length ≤ 4 ∧ RetR (fun v _ => v = .bl (ps.all (Kp381.kept wd))) H Q
theorem ok_all_are_kept (D : Ds n K mg) : FnOk P w K mg base CX0 10 n.f_all_are_kept n.fd_all_are_kept P_all_are_kept (sp_all_are_kept n) := by
  have G_worth_tables := ok_worth_tables (P := P) (w := w) (base := base) D
  have G_is_kept := ok_is_kept (P := P) (w := w) (base := base) D
  refine D.d_all_are_kept.F.ok sc_all_are_kept (fun vs H Q E h => ?_) (fun cdv A outer sh H vs Q E hr h => ?_)
  · obtain ⟨ph, dx, po, fs, vps, wd, ps, rfl, _⟩ := h
    rfl
  · obtain ⟨ph, dx, po, fs, vps, wd, ps, rfl, hp, f1, hpo, hE, hH, ww, wp, lp, kQ⟩ := h
    refine ⟨_, (pss_cons (ps_if (pt_cmpR op_eq (pe_callB call_len_seq (by rfl) D.n_len PySem.boot_len (pa_cons (pe_fld (pv 0) rfl) pa_nil)) pe_int (nomark _))
        (pss_one (ps_ret pe_bl))
        pss_nil)
      (pss_cons (ps_set (i := 1) sc_all_are_kept.nd rfl (Or.inr rfl) (pe_call G_worth_tables (hr.mono (by decide)) rfl D.d_worth_tables.g D.d_worth_tables.F.kp D.d_worth_tables.b .nil pass0 (pa_cons (pv 0) (pa_cons (pe_const rfl D.g_MOST_STEPS) pa_nil))))
      (pss_one (ps_ret (pe_callB (cr_all rfl) (by rfl) D.n_all (by decide +kernel) (pa_cons (pe_lc (own := [("promise", 2)]) (g := gName 2) (tt := tYes) rfl sc_all_are_kept.nd (pi_list (pe_fld (pv 0) rfl)) (blkOk_by (own := [("promise", 2)]) (N := N_all_are_kept) (sc := defScope s_all_are_kept) (by decide +kernel)) (fun _ _ _ _ _ => (pg_name (i := 2) sc_all_are_kept.nd rfl (Or.inl rfl))) (fun _ _ _ _ _ => pts_nil) (fun _ _ _ _ _ => (pe_call G_is_kept (hr.mono (by decide)) rfl D.d_is_kept.g D.d_is_kept.F.kp D.d_is_kept.b .nil pass0 (pa_cons (pv 0) (pa_cons (pv 2) (pa_cons (pv 1) pa_nil)))))) pa_nil)))))), ?_⟩
    refine ⟨_, rfl, ph, n.C_House, dx, _, _, rfl, hp, D.c_House.cl, D.House_promises, f1, po, vps, rfl, Or.inl (sqL hpo), rfl, _, rfl, ?_⟩
    by_cases c : ps = []
    · have hz : vps.length = 0 := by rw [hE.1, c]; rfl
      refine if_t (by rw [hz]; rfl) ?_
      refine kQ.go (Evl.Ex.refl _) ?_
      rw [c]
      rfl
    · have hz : vps.length ≠ 0 := by
        rw [hE.1]
        intro z
        exact c (List.length_eq_zero_iff.mp z)
      refine if_f (by simp; exact fun z => hz (by rw [z]; rfl)) ?_
      refine ⟨_, rfl, _, wd, 4, rfl, hH, ww, Nat.le_refl _, fun vw H1 e1 hW => ?_⟩
      refine ⟨_, rfl, ph, n.C_House, dx, _, _, rfl, e1 _ _ hp, D.c_House.cl, D.House_promises, f1, po, rfl, ⟨vps, sqL (e1 _ _ hpo)⟩, fun Dl hD => ?_⟩
      refine lc_list (K := K) (a := po) (xs := vps) (fun j H2 => Ex H1 H2 ∧ H2 Dl = some (.lst (((ps.take j).map (Kp381.kept wd)).map V.bl))) ⟨Evl.Ex.new hD, upd_same⟩ (fun j H2 _ h => sqL (h.1 _ _ (e1 _ _ hpo))) ?_ ?_
      · rintro j u H2 hj ⟨e2, h2⟩
        obtain ⟨q, hq, hQ⟩ := hE.back hj
        have jl := (List.getElem?_eq_some_iff.mp hq).1
        have wq := wp q (List.mem_of_getElem? hq)
        refine ⟨rfl, ?_⟩
        refine ⟨_, rfl, _, rfl, _, rfl, _, _, _, wd, q, 4, rfl, hH.mono (e1.trans e2), hQ.mono (e1.trans e2), hW.mono e2, ww, wq, wq.k4, Nat.le_refl _, fun vb H3 e3 hb => ?_⟩
        subst hb
        refine ⟨_, e3 _ _ h2, small1000 (by simp; omega), Evl.Ex.mut (e2.trans e3) hD, ?_⟩
        rw [upd_same, List.take_add_one, hq]
        show some (HO.lst (_ ++ [V.bl (Kp381.kept wd q)])) = some (HO.lst (List.map V.bl (List.map _ (List.take j ps ++ [q]))))
        rw [List.map_append, List.map_append]
        rfl
      · rintro H2 ⟨e2, h2⟩
        rw [hE.1, List.take_length] at h2
        refine ⟨Dl, _, rfl, sqL h2, kQ.go (e1.trans e2) ?_⟩
        rw [List.all_map]
        rfl
end
end CI
/-! A change is made, and taken back if a promise weren't kept. -/
namespace CI
open PySem PySem.Spec PyProof.Rows L2
open Evl (Ex fresh_back Ev EvT EvA EvL)
open Kp379 (Stand)
/-- a change that is made only if all promises are kept behind it -/
def guarded (h : Kp381.House) (r : Kp381.State × List Int) : Kp381.State × List Int := if r.2.headD 0 < 0 then (some h, r.2) else match r.1 with
  | none => r
  | some e => if Kp381.allKept e = true then (some e, r.2) else (some h, [-30])
theorem guarded_no {h e : Kp381.House} {z : Int} (hz : z < 0) : guarded h (some e, [z]) = (some h, [z]) := by
  unfold guarded
  exact if_pos hz
theorem guarded_yes {h e : Kp381.House} {z : Int} (hz : 0 ≤ z) : guarded h (some e, [z]) = if Kp381.allKept e = true then (some e, [z]) else (some h, [-30]) := by
  unfold guarded
  exact if_neg (by show ¬ z < 0; omega)
theorem setActs_twice (wd : Kp379.World) (p : Nat) (l m : List Kp379.Act) : Kp379.setActs (Kp379.setActs wd p l) p m = Kp379.setActs wd p m := by
  show ({ wd with acts := (wd.acts.set p l).set p m } : Kp379.World) = { wd with acts := wd.acts.set p m }
  rw [List.set_set]
theorem setActs_same {wd : Kp379.World} {p : Nat} (hp : p < wd.acts.length) : Kp379.setActs wd p (Kp379.actsAt wd p) = wd := by
  show ({ wd with acts := wd.acts.set p (wd.acts.getD p []) } : Kp379.World) = wd
  have : wd.acts.set p (wd.acts.getD p []) = wd.acts := by
    rw [List.getD_eq_getElem?_getD, List.getElem?_eq_getElem hp]
    exact List.set_getElem_self hp
  rw [this]
theorem er_mut {S : List Addr} {H H' : Hp} {q : Addr} {o : HO} (e : Ex H H') (hq : H q = none) : Ex (er S H) (er S (upd H' q o)) := er_mono (Evl.Ex.mut e hq)
section
variable {n : Nm} {X : List Addr} {h : Kp381.House} {st : Kp381.State} {S : List Addr} {ph dx ao so lo po : Addr} {vas vlog vps : List V} {H H' : Hp} {Q : VK}
theorem Told.grow {out : List Int} (k : Told n X st out ph S H Q) (e : Ex H H') : Told n X st out ph S H' Q := fun p H2 S2 a kp hp hh => k p H2 S2 a ((Kept.of_ex e).trans kp) (fresh_back e hp) hh
/-- the acts at a place, as they lie -/
theorem At.there (a : At n X h ph dx ao so lo po vas vlog vps H) {p : Nat} (hp : p < h.world.n) : ∃ pl vls, vas[p]? = some (.ref pl) ∧ er ([ph, ao, lo, po] ++ X) H pl = some (.lst vls) ∧ Each (IsAct n.C_Act) (Kp379.actsAt h.world p) vls (er ([ph, ao, lo, po] ++ X) H) := by
  obtain ⟨v, h1, pl, vls, rfl, h2, h3⟩ := a.ea.2 _ _ (a.ww.at_ hp).1
  exact ⟨pl, vls, h1, h2, h3⟩
theorem At.keeps (a : At n X h ph dx ao so lo po vas vlog vps H) : Each IsProm h.promises vps H := a.eq.mono fun q v hq => hq.mono (er_ex _ _)
end
section
variable {P : Program} {w : World} {K : PySem.W.Frag} {mg : Str → Option Value} {base : Heap} {n : Nm}
def sp_settle (n : Nm) : Sp := fun vs H Q _ => ∃ (X : List Addr) (ph dx ao so lo po la : Addr) (vas vlog vps : List V) (h : Kp381.House) (p : Nat) (as : List Kp379.Act) (z : Int), vs = [.ref ph, .int (p : Int), .ref la, .int z] ∧ Off X [ph, ao, lo, po] H ∧ At n X h ph dx ao so lo po vas vlog vps H ∧ p < h.world.n ∧
  IsLst (IsAct n.C_Act) as (.ref la) (er ([ph, ao, lo, po] ++ X) H) ∧ WfW (Kp379.setActs h.world p as) ∧
  Told n X (if Kp381.allKept { h with world := Kp379.setActs h.world p as } = true then some { h with world := Kp379.setActs h.world p as } else some h) (if Kp381.allKept { h with world := Kp379.setActs h.world p as } = true then [z] else [-30]) ph [ph, ao, lo, po] H Q
theorem ok_settle (D : Ds n K mg) : FnOk P w K mg base CX0 11 n.f_settle n.fd_settle P_settle (sp_settle n) := by
  have G_all_are_kept := ok_all_are_kept (P := P) (w := w) (base := base) D
  refine D.d_settle.F.ok sc_settle (fun vs H Q E h => ?_) (fun cdv A outer sh H vs Q E hr h => ?_)
  · obtain ⟨X, ph, dx, ao, so, lo, po, la, vas, vlog, vps, h, p, as, z, rfl, _⟩ := h
    rfl
  · obtain ⟨X, ph, dx, ao, so, lo, po, la, vas, vlog, vps, h, p, as, z, rfl, off, a, hp, hl, wf, kQ⟩ := h
    refine ⟨_, (pss_cons (ps_set (i := 4) sc_settle.nd rfl (Or.inl rfl) (pe_ix ix_list (pe_fld (pv 0) rfl) (pv 1) (fun _ _ => rfl)))
      (pss_cons (ps_asg (pv 2) (pg_sub (pe_fld (pv 0) rfl) (pv 1) set_list) rfl)
      (pss_cons (ps_if (pt_val (pe_call G_all_are_kept (hr.mono (by decide)) rfl D.d_all_are_kept.g D.d_all_are_kept.F.kp D.d_all_are_kept.b .nil pass0 (pa_cons (pv 0) pa_nil)))
        (pss_one (ps_ret (pe_lst (pa_cons (pv 3) pa_nil))))
        pss_nil)
      (pss_cons (ps_asg (pv 4) (pg_sub (pe_fld (pv 0) rfl) (pv 1) set_list) rfl)
      (pss_one (ps_ret (pe_lst (pa_cons (pe_const rfl D.g_NOT_KEPT) pa_nil)))))))), ?_⟩
    obtain ⟨pl, vls, hvp, hpl, hEl⟩ := a.there hp
    have ixp : ixN vas.length (p : Int) = some p := Evl.ixN_nat (by rw [a.ea.1, a.ww.al]; exact hp)
    refine ⟨_, rfl, ph, n.C_House, dx, _, _, rfl, a.hp, D.c_House.cl, D.House_acts, houseF_acts, _, rfl, ao, _, _, _, rfl, rfl, sqL a.ha, atI_nat hvp, ?_⟩
    refine ⟨_, rfl, _, rfl, ph, n.C_House, dx, _, _, rfl, a.hp, D.c_House.cl, D.House_acts, houseF_acts, _, rfl, ao, vas, _, p, rfl, rfl, a.ha, ixp, ?_⟩
    have a8 := a.setActs hl wf
    have kp : ∀ b o, H b = some o → b ∉ [ph, ao, lo, po] → (upd H ao (.lst (vas.set p (.ref la)))) b = some o := fun b o hb nb => by
      rw [upd_ne (fun z => nb (by rw [z]; simp))]
      exact hb
    refine ⟨_, rfl, ph, dx, po, _, vps, _, h.promises, rfl, a8.hp, houseF_promises, a8.hq, a8.keeps, a8.read, a8.ww, a8.wp, a8.lp, fun vb H1 e1 hb => ?_⟩
    subst hb
    refine ⟨_, rfl, ?_⟩
    refine if_c (fun c => ?_) (fun c => ?_)
    · have c' : Kp381.allKept { h with world := Kp379.setActs h.world p as } = true := c
      rw [if_pos c', if_pos c'] at kQ
      refine ⟨_, rfl, by show 1 ≤ sizeLine; decide, fun r hr9 => ?_⟩
      exact Told.fin off kp a8 (e1.trans (Evl.Ex.new hr9)) (fresh_back e1 hr9) upd_same kQ
    · have c' : ¬ Kp381.allKept { h with world := Kp379.setActs h.world p as } = true := by
        show ¬ (h.promises.all (Kp381.kept (Kp379.setActs h.world p as))) = true
        rw [c]
        decide
      rw [if_neg c', if_neg c'] at kQ
      have a9 := a8.mono e1
      have ixp2 : ixN (vas.set p (.ref la)).length (p : Int) = some p := by
        rw [List.length_set]
        exact ixp
      refine ⟨_, rfl, _, rfl, ph, n.C_House, dx, _, _, rfl, a9.hp, D.c_House.cl, D.House_acts, houseF_acts, _, rfl, ao, _, _, p, rfl, rfl, a9.ha, ixp2, ?_⟩
      have same : er ([ph, ao, lo, po] ++ X) (upd H ao (.lst (vas.set p (.ref la)))) = er ([ph, ao, lo, po] ++ X) H := er_upd (by simp)
      have hb : IsLst (IsAct n.C_Act) (Kp379.actsAt h.world p) (.ref pl) (er ([ph, ao, lo, po] ++ X) H1) := by
        have h0 : IsLst (IsAct n.C_Act) (Kp379.actsAt h.world p) (.ref pl) (er ([ph, ao, lo, po] ++ X) (upd H ao (.lst (vas.set p (.ref la))))) := by
          rw [same]
          exact ⟨pl, vls, rfl, hpl, hEl⟩
        exact h0.mono (fun x v hx => hx.mono (er_mono e1)) (er_mono e1)
      have ew : Kp379.setActs (Kp379.setActs h.world p as) p (Kp379.actsAt h.world p) = h.world := by
        rw [setActs_twice, setActs_same (by rw [a.ww.al]; exact hp)]
      have a10 := a9.setActs (p := p) hb (by show WfW (Kp379.setActs (Kp379.setActs h.world p as) p (Kp379.actsAt h.world p)); rw [ew]; exact a.ww)
      have eh : ({ ({ h with world := Kp379.setActs h.world p as } : Kp381.House) with world := Kp379.setActs (Kp379.setActs h.world p as) p (Kp379.actsAt h.world p) } : Kp381.House) = h := by
        rw [ew]
      rw [eh] at a10
      refine ⟨by show 1 ≤ sizeLine; decide, fun r hr9 => ?_⟩
      have kp2 : ∀ b o, H b = some o → b ∉ [ph, ao, lo, po] → (upd H1 ao (.lst ((vas.set p (.ref la)).set p (.ref pl)))) b = some o := fun b o hb nb => by
        rw [upd_ne (fun z => nb (by rw [z]; simp))]
        exact e1 _ _ (kp b o hb nb)
      exact Told.fin off kp2 a10 (Evl.Ex.new hr9) hr9 upd_same kQ
end
end CI
/-! The calls that change the acts. -/
namespace CI
open PySem PySem.Spec PyProof.Rows L2
open Evl (Ex fresh_back Ev EvT EvA EvL)
open Kp379 (Stand)
theorem Told.settled {n : Nm} {X : List Addr} {h e : Kp381.House} {z : Int} {ph : Addr} {S : List Addr} {H : Hp} {Q : VK} (hz : 0 ≤ z) (k : Told n X (guarded h (some e, [z])).1 (guarded h (some e, [z])).2 ph S H Q) : Told n X (if Kp381.allKept e = true then some e else some h) (if Kp381.allKept e = true then [z] else [-30]) ph S H Q := by
  rw [guarded_yes hz] at k
  by_cases c : Kp381.allKept e = true
  · rw [if_pos c] at k
    rw [if_pos c, if_pos c]
    exact k
  · rw [if_neg c] at k
    rw [if_neg c, if_neg c]
    exact k
/-! ### an act more -/
def actTo (h : Kp381.House) (p : Nat) (row : List Int) : Kp381.State × List Int := if (!Kp379.isPlace h.world p) = true then (some h, [-2]) else match Kp379.readAct h.world row with
  | none => (some h, [-22])
  | some a => if 3 ≤ (Kp379.actsAt h.world p).length then (some h, [-28]) else (some { h with world := Kp379.setActs h.world p (Kp379.actsAt h.world p ++ [a]) }, [((Kp379.actsAt h.world p).length : Int)])
section
variable {P : Program} {w : World} {K : PySem.W.Frag} {mg : Str → Option Value} {base : Heap} {n : Nm}
def sp_put_act (n : Nm) : Sp := fun vs H Q _ => ∃ (X : List Addr) (ph pr : Addr) (S : List Addr) (h : Kp381.House) (p : Nat) (row : List Int), vs = [.ref ph, .int (p : Int), .ref pr] ∧ H pr = some (.lst (row.map V.int)) ∧ row.length ≤ 900 ∧ StAt n X (some h) ph S H ∧ Told n X (guarded h (actTo h p row)).1 (guarded h (actTo h p row)).2 ph S H Q
theorem ok_put_act (D : Ds n K mg) : FnOk P w K mg base CX0 12 n.f_put_act n.fd_put_act P_put_act (sp_put_act n) := by
  have G_settle := ok_settle (P := P) (w := w) (base := base) D
  have G_has_place := ok_has_place (P := P) (w := w) (base := base) D
  have G_is_act_row := ok_is_act_row (P := P) (w := w) (base := base) D
  have G_Act := ok_Act_init (P := P) (w := w) (base := base) D
  refine D.d_put_act.F.ok sc_put_act (fun vs H Q E h => ?_) (fun cdv A outer sh H vs Q E hr h => ?_)
  · obtain ⟨X, ph, pr, S, h, p, row, rfl, _⟩ := h
    rfl
  · obtain ⟨X, ph, pr, S, h, p, row, rfl, hpr, hrow, hS, kQ⟩ := h
    refine ⟨_, (pss_cons (ps_if (pt_not (pt_val (pe_call G_has_place (hr.mono (by decide)) rfl D.d_has_place.g D.d_has_place.F.kp D.d_has_place.b .nil pass0 (pa_cons (pv 0) (pa_cons (pv 1) pa_nil)))))
        (pss_one (ps_ret (pe_lst (pa_cons (pe_const rfl D.g_NO_SUCH) pa_nil))))
        pss_nil)
      (pss_cons (ps_if (pt_not (pt_val (pe_call G_is_act_row (hr.mono (by decide)) rfl D.d_is_act_row.g D.d_is_act_row.F.kp D.d_is_act_row.b .nil pass0 (pa_cons (pv 0) (pa_cons (pv 2) pa_nil)))))
        (pss_one (ps_ret (pe_lst (pa_cons (pe_const rfl D.g_NOT_AS_TOLD) pa_nil))))
        pss_nil)
      (pss_cons (ps_set (i := 3) sc_put_act.nd rfl (Or.inl rfl) (pe_callTy call_list_of (by rfl) D.n_list (by decide +kernel) (pa_cons (pe_ix ix_list (pe_fld (pv 0) rfl) (pv 1) (fun _ _ => rfl)) pa_nil)))
      (pss_cons (ps_if (pt_cmpR op_eq (pe_callB call_len_seq (by rfl) D.n_len PySem.boot_len (pa_cons (pv 3) pa_nil)) (pe_const rfl D.g_MOST_ACTS) (nomark _))
        (pss_one (ps_ret (pe_lst (pa_cons (pe_const rfl D.g_FULL) pa_nil))))
        pss_nil)
      (pss_cons (ps_expr (pe_bm PySem.F.plainAttrs_list PySem.F.slot_list_append PySem.F.type_list_append mt_append (pv 3) (pa_cons (pe_make D.c_Act.M G_Act (hr.mono (by decide)) rfl D.c_Act.g D.c_Act.b .nil pass0 (pa_cons (pe_slice sl_list (pv 2) po_none (po_some (pe_fld (pv 0) rfl))) (pa_cons (pe_slice sl_list (pv 2) (po_some (pe_fld (pv 0) rfl)) po_none) (pa_cons pe_int (pa_cons pe_int pa_nil))))) pa_nil)))
      (pss_one (ps_ret (pe_call G_settle (hr.mono (by decide)) rfl D.d_settle.g D.d_settle.F.kp D.d_settle.b .nil pass0 (pa_cons (pv 0) (pa_cons (pv 1) (pa_cons (pv 3) (pa_cons (pe_op op_sub (pe_callB call_len_seq (by rfl) D.n_len PySem.boot_len (pa_cons (pv 3) pa_nil)) pe_int) pa_nil)))))))))))), ?_⟩
    have hS' := hS
    obtain ⟨off, dx, ao, so, lo, po, vas, vlog, vps, rfl, a⟩ := hS'
    refine Evl.q_when (Evl.et_not (Evl.et_B (ev_has_place a.read rfl rfl))) (fun c H1 e1 => ?_) (fun c H1 e1 => ?_)
    · refine ret_one ?_
      unfold actTo at kQ
      rw [if_pos c, guarded_no (by decide)] at kQ
      exact (kQ.pure hS).mono e1
    · unfold actTo at kQ
      rw [if_neg (by rw [c]; decide)] at kQ
      have hp : p < h.world.n := by simpa [Kp379.isPlace] using c
      refine Evl.q_when (Evl.et_not (Evl.et_B (Evl.ev_call (z := .bl (Kp379.readAct h.world row).isSome) (Evl.ea_cons (Evl.ev_var rfl) (Evl.ea_cons (Evl.ev_var rfl) Evl.ea_nil)) fun H2 e2 Q' q _ => ⟨_, _, h.world, row, rfl, (a.mono (e1.trans e2)).read, ⟨pr, rfl, (e1.trans e2) _ _ hpr⟩, hrow, fun u H3 e3 hu => by rw [hu]; exact q H3 e3⟩))) (fun c2 H2 e2 => ?_) (fun c2 H2 e2 => ?_)
      · refine ret_one ?_
        have : Kp379.readAct h.world row = none := by simpa using c2
        rw [this] at kQ
        simp only [guarded_no (show (-22 : Int) < 0 by decide)] at kQ
        exact (kQ.pure hS).mono (e1.trans e2)
      · obtain ⟨x, hx⟩ : ∃ x, Kp379.readAct h.world row = some x := Option.isSome_iff_exists.mp (by simpa using c2)
        rw [hx] at kQ
        simp only at kQ
        obtain ⟨wx, ex, ew⟩ := wf_readAct hx
        have e12 := e1.trans e2
        have a2 := a.mono e12
        have off2 := off.mono e12
        obtain ⟨pl, vls, hvp, hpl, hEl⟩ := a2.there hp
        obtain ⟨_, g2, g3⟩ := a2.ww.at_ hp
        refine ⟨_, rfl, ph, n.C_House, dx, _, _, rfl, a2.hp, D.c_House.cl, D.House_acts, houseF_acts, _, rfl, ao, _, _, _, rfl, rfl, sqL a2.ha, atI_nat hvp, pl, vls, rfl, Or.inl (sqL (er_some hpl).1), fun la hla => ?_⟩
        have e3 : Ex H2 (upd H2 la (.lst vls)) := Evl.Ex.new hla
        refine ⟨_, rfl, la, vls, rfl, Or.inl (sqL upd_same), rfl, _, rfl, ?_⟩
        have elen : decide (V.int ((vls.length : Nat) : Int) = V.int 3) = decide (3 ≤ (Kp379.actsAt h.world p).length) := by
          rw [hEl.1]
          refine decide_eq_decide.mpr ⟨fun z => ?_, fun z => ?_⟩
          · have := V.int.inj z
            omega
          · congr 1
            omega
        refine if_c (fun c3 => ?_) (fun c3 => ?_)
        · refine ret_one ?_
          rw [elen] at c3
          rw [if_pos (of_decide_eq_true c3), guarded_no (by decide)] at kQ
          exact (kQ.pure hS).mono (e12.trans e3)
        · rw [elen] at c3
          have lt3 := of_decide_eq_false c3
          rw [if_neg lt3] at kQ
          have hr3 := (e12.trans e3) _ _ hpr
          have a3 := a2.mono e3
          -- the two rows
          refine ⟨_, rfl, .inl ⟨rfl, _, sqL upd_same⟩, _, rfl, _, rfl, ph, n.C_House, dx, _, _, rfl, a3.hp, D.c_House.cl, D.House_selves, houseF_selves, _, rfl, pr, _, rfl, sqL hr3, fun q1 hq1 => ?_⟩
          rw [cut_to, ← List.map_take]
          have e4 := Evl.Ex.new (o := .lst ((row.take h.world.v).map V.int)) hq1
          refine ⟨_, rfl, _, rfl, ph, n.C_House, dx, _, _, rfl, (a3.mono e4).hp, D.c_House.cl, D.House_selves, houseF_selves, _, rfl, pr, _, rfl, sqL (e4 _ _ hr3), fun q2 hq2 => ?_⟩
          rw [cut_from, ← List.map_drop]
          have e5 := Evl.Ex.new (o := .lst ((row.drop h.world.v).map V.int)) hq2
          intro y dy ny nd ne
          refine ⟨y, dy, q1, q2, _, _, rfl, upd_same, fun H6 h6 k6 => ⟨rfl, ?_⟩⟩
          have e6 := Same.made ny nd k6
          have e46 : Ex (upd H2 la (.lst vls)) H6 := (e4.trans e5).trans e6
          have hla6 : H6 la = some (.lst vls) := e46 _ _ upd_same
          refine ⟨la, vls, .ref y, rfl, rfl, hla6, small1000 (by rw [hEl.1]; omega), ?_⟩
          -- the heap ahead of the store
          have eH : Ex H (upd H6 la (.lst (vls ++ [.ref y]))) := Evl.Ex.mut (e12.trans (e3.trans e46)) (fresh_back e12 hla)
          have eH2 : Ex H2 (upd H6 la (.lst (vls ++ [.ref y]))) := Evl.Ex.mut (e3.trans e46) hla
          have a7 := a2.mono eH2
          have off7 := off2.mono eH2
          -- new addresses
          have nla := a2.new off2 hla
          have nq1 : q1 ∉ [ph, ao, lo, po] ++ X := a3.new (off2.mono e3) hq1
          have nq2 : q2 ∉ [ph, ao, lo, po] ++ X := (a3.mono e4).new ((off2.mono e3).mono e4) hq2
          have ny' : y ∉ [ph, ao, lo, po] ++ X := ((a3.mono e4).mono e5).new (((off2.mono e3).mono e4).mono e5) ny
          have d1 : q1 ≠ la := fun z => by rw [z, upd_same] at hq1; cases hq1
          have d2 : q2 ≠ la := fun z => by rw [z, e4 _ _ upd_same] at hq2; cases hq2
          have d3 : y ≠ la := fun z => by rw [z, e5 _ _ (e4 _ _ upd_same)] at ny; cases ny
          have hnew : IsAct n.C_Act x (.ref y) (er ([ph, ao, lo, po] ++ X) (upd H6 la (.lst (vls ++ [.ref y])))) := by
            rw [ex] at ew ⊢
            refine ⟨y, dy, q1, q2, rfl, er_of (by rw [upd_ne d3]; exact h6) ny', er_of ?_ nq1, er_of ?_ nq2⟩
            · rw [upd_ne d1]
              exact e6 _ _ (e5 _ _ upd_same)
            · rw [upd_ne d2, ew]
              exact e6 _ _ upd_same
          have hlst : IsLst (IsAct n.C_Act) (Kp379.actsAt h.world p ++ [x]) (.ref la) (er ([ph, ao, lo, po] ++ X) (upd H6 la (.lst (vls ++ [.ref y])))) :=
            ⟨la, vls ++ [.ref y], rfl, er_of upd_same nla, Each.snoc (hEl.mono fun b v hb => hb.mono (er_mono eH2)) hnew⟩
          have wf : WfW (Kp379.setActs h.world p (Kp379.actsAt h.world p ++ [x])) := wf_setActs a2.ww (by rw [List.length_append]; simp; omega) fun b hb => by
            rcases List.mem_append.mp hb with z | z
            · exact g3 b z
            · have : b = x := by simpa using z
              rw [this]
              exact wx
          have ez : (((vls ++ [V.ref y]).length : Nat) : Int) - 1 = ((Kp379.actsAt h.world p).length : Int) := by
            rw [List.length_append, hEl.1]
            simp
          refine ⟨_, rfl, _, rfl, _, rfl, _, rfl, la, _, rfl, Or.inl (sqL upd_same), _, _, rfl, rfl, X, ph, dx, ao, so, lo, po, la, vas, vlog, vps, h, p, _, _, by show [V.ref ph, V.int (p : Int), V.ref la, V.int ((((vls ++ [V.ref y]).length : Nat) : Int) - 1)] = _; rw [ez], off7, a7, hp, hlst, wf, (Told.settled (by omega) kQ).grow eH⟩
/-! ### an act less -/
def unactTo (h : Kp381.House) (p a : Nat) : Kp381.State × List Int := if (!Kp379.isAct h.world p a) = true then (some h, [-2]) else (some { h with world := Kp379.setActs h.world p ((Kp379.actsAt h.world p).take a ++ (Kp379.actsAt h.world p).drop (a + 1)) }, [(((Kp379.actsAt h.world p).length - 1 : Nat) : Int)])
theorem erase_split {α : Type} : ∀ (l : List α) (i : Nat), l.eraseIdx i = l.take i ++ l.drop (i + 1)
  | [], i => by simp
  | x :: r, 0 => by simp
  | x :: r, i + 1 => by
    have ih := erase_split r i
    simp [ih]
theorem Each.erase {α : Type} {R : α → V → Hp → Prop} {l : List α} {vs : List V} {H : Hp} (h : Each R l vs H) (j : Nat) (hj : j < l.length) : Each R (l.eraseIdx j) (vs.eraseIdx j) H := by
  have hl : (vs.eraseIdx j).length = (l.eraseIdx j).length := by
    rw [List.length_eraseIdx_of_lt (by rw [h.1]; exact hj), List.length_eraseIdx_of_lt hj, h.1]
  refine ⟨hl, fun i a ha => ?_⟩
  rw [List.getElem?_eraseIdx] at ha
  by_cases c : i < j
  · rw [if_pos c] at ha
    obtain ⟨v, h1, h2⟩ := h.2 i a ha
    exact ⟨v, by rw [List.getElem?_eraseIdx, if_pos c]; exact h1, h2⟩
  · rw [if_neg c] at ha
    obtain ⟨v, h1, h2⟩ := h.2 (i + 1) a ha
    exact ⟨v, by rw [List.getElem?_eraseIdx, if_neg c]; exact h1, h2⟩
end
end CI
namespace CI
open PySem PySem.Spec PyProof.Rows L2
open Evl (Ex fresh_back Ev EvT EvA EvL)
open Kp379 (Stand)
section
variable {n : Nm}
/-- an act of a place lies elsewhere than a list that is new -/
theorem IsAct.apart {S : List Addr} {H H' : Hp} {a : Kp379.Act} {v : V} {q : Addr} {o : HO} (e : Ex H H') (hq : H q = none) (h : IsAct n.C_Act a v (er S H)) : IsAct n.C_Act a v (er S (upd H' q o)) := h.mono (er_mut e hq)
theorem Each.set {α : Type} {R : α → V → Hp → Prop} {l : List α} {vs : List V} {H : Hp} (hE : Each R l vs H) {j : Nat} {a : α} {v : V} (r : R a v H) : Each R (l.set j a) (vs.set j v) H := by
  refine ⟨by rw [List.length_set, List.length_set]; exact hE.1, fun i b hb => ?_⟩
  by_cases c : j = i
  · subst c
    have hl : j < l.length := by
      have := (List.getElem?_eq_some_iff.mp hb).1
      rw [List.length_set] at this
      exact this
    rw [List.getElem?_set_self hl] at hb
    have e : a = b := Option.some.inj hb
    subst e
    exact ⟨v, List.getElem?_set_self (by rw [hE.1]; exact hl), r⟩
  · rw [List.getElem?_set_ne c] at hb
    obtain ⟨u, h1, h2⟩ := hE.2 i b hb
    exact ⟨u, by rw [List.getElem?_set_ne c]; exact h1, h2⟩
end
theorem setAct_is (w : Kp379.World) (p a : Nat) (x : Kp379.Act) : Kp379.setAct w p a x = Kp379.setActs w p ((Kp379.actsAt w p).set a x) := rfl
def turnTo (h : Kp381.House) (p a t : Nat) : Kp381.State × List Int := if (!Kp379.isAct h.world p a) = true then (some h, [-2]) else if h.world.v < t then (some h, [-22]) else
  (some { h with world := Kp379.setActs h.world p ((Kp379.actsAt h.world p).set a { Kp379.actAt h.world p a with turn := t }) }, [((Kp379.actAt h.world p a).turn : Int)])
def lockTo (h : Kp381.House) (p a b : Nat) : Kp381.State × List Int := if (!Kp379.isAct h.world p a) = true then (some h, [-2]) else if 1 < b then (some h, [-22]) else
  (some { h with world := Kp379.setActs h.world p ((Kp379.actsAt h.world p).set a { Kp379.actAt h.world p a with lock := b == 1 }) }, [b2 (Kp379.actAt h.world p a).lock])
section
variable {P : Program} {w : World} {K : PySem.W.Frag} {mg : Str → Option Value} {base : Heap} {n : Nm}
theorem ev_has_act {σ : L2.St} {H : Hp} {wd : Kp379.World} {v : V} {i j k p a : Nat} (hH : HRead n wd v H) (ww : WfW wd) (h1 : σ[i]? = some (some v)) (h2 : σ[j]? = some (some (.int (p : Int)))) (h3 : σ[k]? = some (some (.int (a : Int)))) : Ev (tCall (sp_has_act n) [] E0 (tCons (tVar i) (tCons (tVar j) (tCons (tVar k) tNil)))) σ H (.bl (Kp379.isAct wd p a)) :=
  Evl.ev_call (Evl.ea_cons (Evl.ev_var h1) (Evl.ea_cons (Evl.ev_var h2) (Evl.ea_cons (Evl.ev_var h3) Evl.ea_nil))) fun H1 e Q q _ => ⟨v, wd, p, a, rfl, hH.mono e, ww, fun u H2 e2 hu => by rw [hu]; exact q H2 e2⟩
/-! ### an act less -/
def sp_take_act (n : Nm) : Sp := fun vs H Q _ => ∃ (X : List Addr) (ph : Addr) (S : List Addr) (h : Kp381.House) (p a : Nat), vs = [.ref ph, .int (p : Int), .int (a : Int)] ∧ StAt n X (some h) ph S H ∧ Told n X (guarded h (unactTo h p a)).1 (guarded h (unactTo h p a)).2 ph S H Q
theorem ok_take_act (D : Ds n K mg) : FnOk P w K mg base CX0 12 n.f_take_act n.fd_take_act P_take_act (sp_take_act n) := by
  have G_settle := ok_settle (P := P) (w := w) (base := base) D
  have G_has_act := ok_has_act (P := P) (w := w) (base := base) D
  refine D.d_take_act.F.ok sc_take_act (fun vs H Q E h => ?_) (fun cdv A outer sh H vs Q E hr h => ?_)
  · obtain ⟨X, ph, S, h, p, ac, rfl, _⟩ := h
    rfl
  · obtain ⟨X, ph, S, h, p, ac, rfl, hS, kQ⟩ := h
    refine ⟨_, (pss_cons (ps_if (pt_not (pt_val (pe_call G_has_act (hr.mono (by decide)) rfl D.d_has_act.g D.d_has_act.F.kp D.d_has_act.b .nil pass0 (pa_cons (pv 0) (pa_cons (pv 1) (pa_cons (pv 2) pa_nil))))))
        (pss_one (ps_ret (pe_lst (pa_cons (pe_const rfl D.g_NO_SUCH) pa_nil))))
        pss_nil)
      (pss_cons (ps_set (i := 3) sc_take_act.nd rfl (Or.inl rfl) (pe_callTy call_list_of (by rfl) D.n_list (by decide +kernel) (pa_cons (pe_ix ix_list (pe_fld (pv 0) rfl) (pv 1) (fun _ _ => rfl)) pa_nil)))
      (pss_cons (ps_expr (pe_bm PySem.F.plainAttrs_list PySem.F.slot_list_pop PySem.F.type_list_pop mt_popAt (pv 3) (pa_cons (pv 2) pa_nil)))
      (pss_one (ps_ret (pe_call G_settle (hr.mono (by decide)) rfl D.d_settle.g D.d_settle.F.kp D.d_settle.b .nil pass0 (pa_cons (pv 0) (pa_cons (pv 1) (pa_cons (pv 3) (pa_cons (pe_callB call_len_seq (by rfl) D.n_len PySem.boot_len (pa_cons (pv 3) pa_nil)) pa_nil)))))))))), ?_⟩
    have hS' := hS
    obtain ⟨off, dx, ao, so, lo, po, vas, vlog, vps, rfl, a⟩ := hS'
    refine Evl.q_when (Evl.et_not (Evl.et_B (ev_has_act a.read a.ww rfl rfl rfl))) (fun c H1 e1 => ?_) (fun c H1 e1 => ?_)
    · refine ret_one ?_
      unfold unactTo at kQ
      rw [if_pos c, guarded_no (by decide)] at kQ
      exact (kQ.pure hS).mono e1
    · unfold unactTo at kQ
      rw [if_neg (by rw [c]; decide)] at kQ
      simp only [Bool.not_eq_false', Kp379.isAct, Kp379.isPlace, Bool.and_eq_true, decide_eq_true_eq] at c
      obtain ⟨hp, hac⟩ := c
      have a1 := a.mono e1
      have off1 := off.mono e1
      obtain ⟨pl, vls, hvp, hpl, hEl⟩ := a1.there hp
      obtain ⟨_, g2, g3⟩ := a1.ww.at_ hp
      refine ⟨_, rfl, ph, n.C_House, dx, _, _, rfl, a1.hp, D.c_House.cl, D.House_acts, houseF_acts, _, rfl, ao, _, _, _, rfl, rfl, sqL a1.ha, atI_nat hvp, pl, vls, rfl, Or.inl (sqL (er_some hpl).1), fun la hla => ?_⟩
      have e3 : Ex H1 (upd H1 la (.lst vls)) := Evl.Ex.new hla
      have hlv : ac < vls.length := by rw [hEl.1]; exact hac
      have hix : seqIndex? (ac : Int) vls.length = some ac := by
        have h0 := atI_get (xs := vls) (i := (ac : Int)) (v := vls[ac]) (atI_nat (List.getElem?_eq_getElem hlv))
        obtain ⟨j, h1, h2, h3, _⟩ := h0
        have h4 : j = ac := by
          unfold seqIndex? at h1
          grind
        rw [h4] at h1
        exact h1
      refine ⟨_, rfl, .inl ⟨rfl, _, sqL upd_same⟩, _, rfl, la, vls, (ac : Int), ac, vls[ac], rfl, rfl, upd_same, by omega, by omega, hix, List.getElem?_eq_getElem hlv, ?_⟩
      rw [upd_upd]
      have nla := a1.new off1 hla
      have eH1 : Ex H1 (upd H1 la (.lst (vls.eraseIdx ac))) := Evl.Ex.new hla
      have a7 := a1.mono eH1
      have hlst : IsLst (IsAct n.C_Act) ((Kp379.actsAt h.world p).eraseIdx ac) (.ref la) (er ([ph, ao, lo, po] ++ X) (upd H1 la (.lst (vls.eraseIdx ac)))) :=
        ⟨la, _, rfl, er_of upd_same nla, (hEl.mono fun b v hb => hb.mono (er_mono eH1)).erase ac hac⟩
      rw [erase_split] at hlst
      have wf : WfW (Kp379.setActs h.world p ((Kp379.actsAt h.world p).take ac ++ (Kp379.actsAt h.world p).drop (ac + 1))) := by
        rw [← erase_split]
        refine wf_setActs a.ww ?_ fun b hb => g3 b (List.mem_of_mem_eraseIdx hb)
        rw [List.length_eraseIdx_of_lt hac]
        omega
      have el : ((vls.eraseIdx ac).length : Int) = (((Kp379.actsAt h.world p).length - 1 : Nat) : Int) := by
        rw [List.length_eraseIdx_of_lt hlv, hEl.1]
      refine ⟨_, rfl, _, rfl, _, rfl, _, rfl, la, _, rfl, Or.inl (sqL upd_same), X, ph, dx, ao, so, lo, po, la, vas, vlog, vps, h, p, _, _, by rw [el]; rfl, off1.mono eH1, a7, hp, hlst, wf, (Told.settled (by omega) kQ).grow (e1.trans eH1)⟩
/-! ### an act turns, an act locks -/
def sp_set_turn (n : Nm) : Sp := fun vs H Q _ => ∃ (X : List Addr) (ph : Addr) (S : List Addr) (h : Kp381.House) (p a t : Nat), vs = [.ref ph, .int (p : Int), .int (a : Int), .int (t : Int)] ∧ StAt n X (some h) ph S H ∧ Told n X (guarded h (turnTo h p a t)).1 (guarded h (turnTo h p a t)).2 ph S H Q
theorem ok_set_turn (D : Ds n K mg) : FnOk P w K mg base CX0 12 n.f_set_turn n.fd_set_turn P_set_turn (sp_set_turn n) := by
  have G_settle := ok_settle (P := P) (w := w) (base := base) D
  have G_has_act := ok_has_act (P := P) (w := w) (base := base) D
  have G_Act := ok_Act_init (P := P) (w := w) (base := base) D
  refine D.d_set_turn.F.ok sc_set_turn (fun vs H Q E h => ?_) (fun cdv A outer sh H vs Q E hr h => ?_)
  · obtain ⟨X, ph, S, h, p, ac, t, rfl, _⟩ := h
    rfl
  · obtain ⟨X, ph, S, h, p, ac, t, rfl, hS, kQ⟩ := h
    refine ⟨_, (pss_cons (ps_if (pt_not (pt_val (pe_call G_has_act (hr.mono (by decide)) rfl D.d_has_act.g D.d_has_act.F.kp D.d_has_act.b .nil pass0 (pa_cons (pv 0) (pa_cons (pv 1) (pa_cons (pv 2) pa_nil))))))
        (pss_one (ps_ret (pe_lst (pa_cons (pe_const rfl D.g_NO_SUCH) pa_nil))))
        pss_nil)
      (pss_cons (ps_if (pt_cmpR op_gt (pv 3) (pe_fld (pv 0) rfl) (nomark _))
        (pss_one (ps_ret (pe_lst (pa_cons (pe_const rfl D.g_NOT_AS_TOLD) pa_nil))))
        pss_nil)
      (pss_cons (ps_set (i := 4) sc_set_turn.nd rfl (Or.inl rfl) (pe_callTy call_list_of (by rfl) D.n_list (by decide +kernel) (pa_cons (pe_ix ix_list (pe_fld (pv 0) rfl) (pv 1) (fun _ _ => rfl)) pa_nil)))
      (pss_cons (ps_set (i := 5) sc_set_turn.nd rfl (Or.inl rfl) (pe_ix ix_list (pv 4) (pv 2) (fun _ _ => rfl)))
      (pss_cons (ps_asg (pe_make D.c_Act.M G_Act (hr.mono (by decide)) rfl D.c_Act.g D.c_Act.b .nil pass0 (pa_cons (pe_fld (pv 5) rfl) (pa_cons (pe_fld (pv 5) rfl) (pa_cons (pv 3) (pa_cons (pe_fld (pv 5) rfl) pa_nil))))) (pg_sub (pv 4) (pv 2) set_list) rfl)
      (pss_one (ps_ret (pe_call G_settle (hr.mono (by decide)) rfl D.d_settle.g D.d_settle.F.kp D.d_settle.b .nil pass0 (pa_cons (pv 0) (pa_cons (pv 1) (pa_cons (pv 4) (pa_cons (pe_fld (pv 5) rfl) pa_nil)))))))))))), ?_⟩
    have hS' := hS
    obtain ⟨off, dx, ao, so, lo, po, vas, vlog, vps, rfl, a⟩ := hS'
    refine Evl.q_when (Evl.et_not (Evl.et_B (ev_has_act a.read a.ww rfl rfl rfl))) (fun c H1 e1 => ?_) (fun c H1 e1 => ?_)
    · refine ret_one ?_
      unfold turnTo at kQ
      rw [if_pos c, guarded_no (by decide)] at kQ
      exact (kQ.pure hS).mono e1
    · unfold turnTo at kQ
      rw [if_neg (by rw [c]; decide)] at kQ
      simp only [Bool.not_eq_false', Kp379.isAct, Kp379.isPlace, Bool.and_eq_true, decide_eq_true_eq] at c
      obtain ⟨hp, hac⟩ := c
      have a1 := a.mono e1
      have off1 := off.mono e1
      refine ⟨_, rfl, _, rfl, ph, n.C_House, dx, _, _, rfl, a1.hp, D.c_House.cl, D.House_selves, houseF_selves, _, _, rfl, rfl, _, rfl, ?_⟩
      refine if_c (fun c2 => ?_) (fun c2 => ?_)
      · refine ret_one ?_
        rw [if_pos (by have := of_decide_eq_true c2; omega), guarded_no (by decide)] at kQ
        exact (kQ.pure hS).mono e1
      · have ht : ¬ h.world.v < t := by have := of_decide_eq_false c2; omega
        rw [if_neg ht] at kQ
        obtain ⟨pl, vls, hvp, hpl, hEl⟩ := a1.there hp
        obtain ⟨_, g2, g3⟩ := a1.ww.at_ hp
        refine ⟨_, rfl, ph, n.C_House, dx, _, _, rfl, a1.hp, D.c_House.cl, D.House_acts, houseF_acts, _, rfl, ao, _, _, _, rfl, rfl, sqL a1.ha, atI_nat hvp, pl, vls, rfl, Or.inl (sqL (er_some hpl).1), fun la hla => ?_⟩
        have e3 : Ex H1 (upd H1 la (.lst vls)) := Evl.Ex.new hla
        have ga : (Kp379.actsAt h.world p)[ac]? = some (Kp379.actAt h.world p ac) := by
          unfold Kp379.actAt
          rw [List.getD_eq_getElem?_getD, List.getElem?_eq_getElem hac]
          rfl
        obtain ⟨vo, hvo, hA⟩ := hEl.2 _ _ ga
        have wa := g3 _ (List.mem_of_getElem? ga)
        obtain ⟨po_, do_, pp, pw, rfl, ho, hop, how⟩ := hA
        have ho1 := e3 _ _ (er_some ho).1
        refine ⟨_, rfl, _, rfl, la, _, _, _, rfl, rfl, sqL upd_same, atI_nat hvo, ?_⟩
        refine ⟨_, rfl, po_, n.C_Act, do_, _, _, rfl, ho1, D.c_Act.cl, D.Act_pays, actF_pays, _, rfl, po_, n.C_Act, do_, _, _, rfl, ho1, D.c_Act.cl, D.Act_weights, actF_weights, _, rfl, _, rfl, po_, n.C_Act, do_, _, _, rfl, ho1, D.c_Act.cl, D.Act_locks, actF_locks, ?_⟩
        intro y dy ny nd ne
        refine ⟨y, dy, pp, pw, _, _, rfl, upd_same, fun H6 h6 k6 => ⟨rfl, ?_⟩⟩
        have e6 := Same.made ny nd k6
        have hla6 : H6 la = some (.lst vls) := e6 _ _ upd_same
        have ixa : ixN vls.length (ac : Int) = some ac := Evl.ixN_nat (by rw [hEl.1]; exact hac)
        refine ⟨_, rfl, _, rfl, la, vls, _, ac, rfl, rfl, hla6, ixa, ?_⟩
        have eH1 : Ex H1 (upd H6 la (.lst (vls.set ac (.ref y)))) := Evl.Ex.mut (e3.trans e6) hla
        have a7 := a1.mono eH1
        have nla := a1.new off1 hla
        have ny' : y ∉ [ph, ao, lo, po] ++ X := (a1.mono e3).new (off1.mono e3) ny
        have d3 : y ≠ la := fun z => by rw [z, upd_same] at ny; cases ny
        have hnew : IsAct n.C_Act { Kp379.actAt h.world p ac with turn := t } (.ref y) (er ([ph, ao, lo, po] ++ X) (upd H6 la (.lst (vls.set ac (.ref y))))) :=
          ⟨y, dy, pp, pw, rfl, er_of (by rw [upd_ne d3]; exact h6) ny', er_mono eH1 _ _ hop, er_mono eH1 _ _ how⟩
        have hlst : IsLst (IsAct n.C_Act) ((Kp379.actsAt h.world p).set ac { Kp379.actAt h.world p ac with turn := t }) (.ref la) (er ([ph, ao, lo, po] ++ X) (upd H6 la (.lst (vls.set ac (.ref y))))) :=
          ⟨la, _, rfl, er_of upd_same nla, (hEl.mono fun b v hb => hb.mono (er_mono eH1)).set hnew⟩
        have wf : WfW (Kp379.setActs h.world p ((Kp379.actsAt h.world p).set ac { Kp379.actAt h.world p ac with turn := t })) := by
          refine wf_setActs a.ww (by rw [List.length_set]; exact g2) fun b hb => ?_
          rcases List.mem_or_eq_of_mem_set hb with z | z
          · exact g3 b z
          · rw [z]
            exact ⟨wa.pl, wa.pb, wa.wl, wa.wb, wa.wt, by show t ≤ h.world.v; omega⟩
        have ho9 := eH1 _ _ (er_some ho).1
        refine ⟨_, rfl, _, rfl, _, rfl, _, rfl, po_, n.C_Act, do_, _, _, rfl, ho9, D.c_Act.cl, D.Act_turn, actF_turn, X, ph, dx, ao, so, lo, po, la, vas, vlog, vps, h, p, _, _, rfl, off1.mono eH1, a7, hp, hlst, wf, (Told.settled (by omega) kQ).grow (e1.trans eH1)⟩
end
end CI
namespace CI
open PySem PySem.Spec PyProof.Rows L2
open Evl (Ex fresh_back Ev EvT EvA EvL)
open Kp379 (Stand)
section
variable {P : Program} {w : World} {K : PySem.W.Frag} {mg : Str → Option Value} {base : Heap} {n : Nm}
def sp_set_lock (n : Nm) : Sp := fun vs H Q _ => ∃ (X : List Addr) (ph : Addr) (S : List Addr) (h : Kp381.House) (p a t : Nat), vs = [.ref ph, .int (p : Int), .int (a : Int), .int (t : Int)] ∧ StAt n X (some h) ph S H ∧ Told n X (guarded h (lockTo h p a t)).1 (guarded h (lockTo h p a t)).2 ph S H Q
theorem ok_set_lock (D : Ds n K mg) : FnOk P w K mg base CX0 12 n.f_set_lock n.fd_set_lock P_set_lock (sp_set_lock n) := by
  have G_settle := ok_settle (P := P) (w := w) (base := base) D
  have G_has_act := ok_has_act (P := P) (w := w) (base := base) D
  have G_Act := ok_Act_init (P := P) (w := w) (base := base) D
  refine D.d_set_lock.F.ok sc_set_lock (fun vs H Q E h => ?_) (fun cdv A outer sh H vs Q E hr h => ?_)
  · obtain ⟨X, ph, S, h, p, ac, t, rfl, _⟩ := h
    rfl
  · obtain ⟨X, ph, S, h, p, ac, t, rfl, hS, kQ⟩ := h
    refine ⟨_, (pss_cons (ps_if (pt_not (pt_val (pe_call G_has_act (hr.mono (by decide)) rfl D.d_has_act.g D.d_has_act.F.kp D.d_has_act.b .nil pass0 (pa_cons (pv 0) (pa_cons (pv 1) (pa_cons (pv 2) pa_nil))))))
        (pss_one (ps_ret (pe_lst (pa_cons (pe_const rfl D.g_NO_SUCH) pa_nil))))
        pss_nil)
      (pss_cons (ps_if (pt_cmpR op_gt (pv 3) pe_int (nomark _))
        (pss_one (ps_ret (pe_lst (pa_cons (pe_const rfl D.g_NOT_AS_TOLD) pa_nil))))
        pss_nil)
      (pss_cons (ps_set (i := 4) sc_set_lock.nd rfl (Or.inl rfl) (pe_callTy call_list_of (by rfl) D.n_list (by decide +kernel) (pa_cons (pe_ix ix_list (pe_fld (pv 0) rfl) (pv 1) (fun _ _ => rfl)) pa_nil)))
      (pss_cons (ps_set (i := 5) sc_set_lock.nd rfl (Or.inl rfl) (pe_ix ix_list (pv 4) (pv 2) (fun _ _ => rfl)))
      (pss_cons (ps_asg (pe_make D.c_Act.M G_Act (hr.mono (by decide)) rfl D.c_Act.g D.c_Act.b .nil pass0 (pa_cons (pe_fld (pv 5) rfl) (pa_cons (pe_fld (pv 5) rfl) (pa_cons (pe_fld (pv 5) rfl) (pa_cons (pv 3) pa_nil))))) (pg_sub (pv 4) (pv 2) set_list) rfl)
      (pss_one (ps_ret (pe_call G_settle (hr.mono (by decide)) rfl D.d_settle.g D.d_settle.F.kp D.d_settle.b .nil pass0 (pa_cons (pv 0) (pa_cons (pv 1) (pa_cons (pv 4) (pa_cons (pe_fld (pv 5) rfl) pa_nil)))))))))))), ?_⟩
    have hS' := hS
    obtain ⟨off, dx, ao, so, lo, po, vas, vlog, vps, rfl, a⟩ := hS'
    refine Evl.q_when (Evl.et_not (Evl.et_B (ev_has_act a.read a.ww rfl rfl rfl))) (fun c H1 e1 => ?_) (fun c H1 e1 => ?_)
    · refine ret_one ?_
      unfold lockTo at kQ
      rw [if_pos c, guarded_no (by decide)] at kQ
      exact (kQ.pure hS).mono e1
    · unfold lockTo at kQ
      rw [if_neg (by rw [c]; decide)] at kQ
      simp only [Bool.not_eq_false', Kp379.isAct, Kp379.isPlace, Bool.and_eq_true, decide_eq_true_eq] at c
      obtain ⟨hp, hac⟩ := c
      have a1 := a.mono e1
      have off1 := off.mono e1
      refine ⟨_, rfl, _, _, rfl, rfl, _, rfl, ?_⟩
      refine if_c (fun c2 => ?_) (fun c2 => ?_)
      · refine ret_one ?_
        rw [if_pos (by have := of_decide_eq_true c2; omega), guarded_no (by decide)] at kQ
        exact (kQ.pure hS).mono e1
      · have ht : ¬ 1 < t := by have := of_decide_eq_false c2; omega
        rw [if_neg ht] at kQ
        obtain ⟨pl, vls, hvp, hpl, hEl⟩ := a1.there hp
        obtain ⟨_, g2, g3⟩ := a1.ww.at_ hp
        refine ⟨_, rfl, ph, n.C_House, dx, _, _, rfl, a1.hp, D.c_House.cl, D.House_acts, houseF_acts, _, rfl, ao, _, _, _, rfl, rfl, sqL a1.ha, atI_nat hvp, pl, vls, rfl, Or.inl (sqL (er_some hpl).1), fun la hla => ?_⟩
        have e3 : Ex H1 (upd H1 la (.lst vls)) := Evl.Ex.new hla
        have ga : (Kp379.actsAt h.world p)[ac]? = some (Kp379.actAt h.world p ac) := by
          unfold Kp379.actAt
          rw [List.getD_eq_getElem?_getD, List.getElem?_eq_getElem hac]
          rfl
        obtain ⟨vo, hvo, hA⟩ := hEl.2 _ _ ga
        have wa := g3 _ (List.mem_of_getElem? ga)
        obtain ⟨po_, do_, pp, pw, rfl, ho, hop, how⟩ := hA
        have ho1 := e3 _ _ (er_some ho).1
        refine ⟨_, rfl, _, rfl, la, _, _, _, rfl, rfl, sqL upd_same, atI_nat hvo, ?_⟩
        refine ⟨_, rfl, po_, n.C_Act, do_, _, _, rfl, ho1, D.c_Act.cl, D.Act_pays, actF_pays, _, rfl, po_, n.C_Act, do_, _, _, rfl, ho1, D.c_Act.cl, D.Act_weights, actF_weights, _, rfl, po_, n.C_Act, do_, _, _, rfl, ho1, D.c_Act.cl, D.Act_turn, actF_turn, _, rfl, ?_⟩
        intro y dy ny nd ne
        refine ⟨y, dy, pp, pw, _, _, rfl, upd_same, fun H6 h6 k6 => ⟨rfl, ?_⟩⟩
        have e6 := Same.made ny nd k6
        have hla6 : H6 la = some (.lst vls) := e6 _ _ upd_same
        have ixa : ixN vls.length (ac : Int) = some ac := Evl.ixN_nat (by rw [hEl.1]; exact hac)
        refine ⟨_, rfl, _, rfl, la, vls, _, ac, rfl, rfl, hla6, ixa, ?_⟩
        have eH1 : Ex H1 (upd H6 la (.lst (vls.set ac (.ref y)))) := Evl.Ex.mut (e3.trans e6) hla
        have a7 := a1.mono eH1
        have nla := a1.new off1 hla
        have ny' : y ∉ [ph, ao, lo, po] ++ X := (a1.mono e3).new (off1.mono e3) ny
        have d3 : y ≠ la := fun z => by rw [z, upd_same] at ny; cases ny
        have hnew : IsAct n.C_Act { Kp379.actAt h.world p ac with lock := t == 1 } (.ref y) (er ([ph, ao, lo, po] ++ X) (upd H6 la (.lst (vls.set ac (.ref y))))) :=
          ⟨y, dy, pp, pw, rfl, er_of (by rw [upd_ne d3, h6, ← b2_eq (show t ≤ 1 by omega)]; rfl) ny', er_mono eH1 _ _ hop, er_mono eH1 _ _ how⟩
        have hlst : IsLst (IsAct n.C_Act) ((Kp379.actsAt h.world p).set ac { Kp379.actAt h.world p ac with lock := t == 1 }) (.ref la) (er ([ph, ao, lo, po] ++ X) (upd H6 la (.lst (vls.set ac (.ref y))))) :=
          ⟨la, _, rfl, er_of upd_same nla, (hEl.mono fun b v hb => hb.mono (er_mono eH1)).set hnew⟩
        have wf : WfW (Kp379.setActs h.world p ((Kp379.actsAt h.world p).set ac { Kp379.actAt h.world p ac with lock := t == 1 })) := by
          refine wf_setActs a.ww (by rw [List.length_set]; exact g2) fun b hb => ?_
          rcases List.mem_or_eq_of_mem_set hb with z | z
          · exact g3 b z
          · rw [z]
            exact ⟨wa.pl, wa.pb, wa.wl, wa.wb, wa.wt, wa.tn⟩
        have ho9 := eH1 _ _ (er_some ho).1
        have hz : 0 ≤ b2 (Kp379.actAt h.world p ac).lock := by cases (Kp379.actAt h.world p ac).lock <;> decide
        refine ⟨_, rfl, _, rfl, _, rfl, _, rfl, po_, n.C_Act, do_, _, _, rfl, ho9, D.c_Act.cl, D.Act_locks, actF_locks, X, ph, dx, ao, so, lo, po, la, vas, vlog, vps, h, p, _, _, rfl, off1.mono eH1, a7, hp, hlst, wf, (Told.settled hz kQ).grow (e1.trans eH1)⟩
/-! ### twins put down -/
/-- the acts behind the first j of them have been looked at -/
def twins (as : List Kp379.Act) (j : Nat) : List Kp379.Act := (List.range j).foldl (fun u i => if lonelyIn u (as.getD i ⟨[], [], 0, false⟩) && decide (u.length < 3) then u ++ [{ as.getD i ⟨[], [], 0, false⟩ with turn := 0, lock := false }] else u) as
theorem twins_succ (as : List Kp379.Act) (j : Nat) : twins as (j + 1) = if lonelyIn (twins as j) (as.getD j ⟨[], [], 0, false⟩) && decide ((twins as j).length < 3) then twins as j ++ [{ as.getD j ⟨[], [], 0, false⟩ with turn := 0, lock := false }] else twins as j := by
  unfold twins
  rw [List.range_succ, List.foldl_append]
  rfl
theorem twins_more (as : List Kp379.Act) : ∀ j, ∃ l, twins as j = as ++ l
  | 0 => ⟨[], by simp [twins]⟩
  | j + 1 => by
    obtain ⟨l, e⟩ := twins_more as j
    rw [twins_succ, e]
    split
    · exact ⟨l ++ [_], by rw [List.append_assoc]⟩
    · exact ⟨l, rfl⟩
theorem twins_wf {wd : Kp379.World} {as : List Kp379.Act} (h3 : as.length ≤ 3) (ha : ∀ a ∈ as, WfAct wd a) : ∀ j, j ≤ as.length → (twins as j).length ≤ 3 ∧ ∀ a ∈ twins as j, WfAct wd a
  | 0, _ => ⟨h3, ha⟩
  | j + 1, hj => by
    obtain ⟨i1, i2⟩ := twins_wf h3 ha j (by omega)
    rw [twins_succ]
    split
    · rename_i c
      rw [Bool.and_eq_true, decide_eq_true_eq] at c
      refine ⟨by rw [List.length_append]; simp; omega, fun a hm => ?_⟩
      rcases List.mem_append.mp hm with z | z
      · exact i2 a z
      · have e : a = { as.getD j ⟨[], [], 0, false⟩ with turn := 0, lock := false } := by simpa using z
        have hm2 : as.getD j ⟨[], [], 0, false⟩ ∈ as := by
          rw [List.getD_eq_getElem?_getD, List.getElem?_eq_getElem (by omega)]
          exact List.getElem_mem _
        have wa := ha _ hm2
        rw [e]
        exact ⟨wa.pl, wa.pb, wa.wl, wa.wb, wa.wt, Nat.zero_le _⟩
    · exact ⟨i1, i2⟩
/-- the specification's worlds with twins -/
theorem withTwins_is {wd : Kp379.World} {p : Nat} (hp : p < wd.acts.length) : Kp380.withTwins wd p = Kp379.setActs wd p (twins (Kp379.actsAt wd p) (Kp379.actsAt wd p).length) := by
  have at_ : ∀ l, Kp379.actsAt (Kp379.setActs wd p l) p = l := fun l => by
    show (wd.acts.set p l).getD p [] = l
    rw [List.getD_eq_getElem?_getD, List.getElem?_set_self hp]
    rfl
  have set2 : ∀ l m, Kp379.setActs (Kp379.setActs wd p l) p m = Kp379.setActs wd p m := fun l m => by
    show ({ wd with acts := (wd.acts.set p l).set p m } : Kp379.World) = { wd with acts := wd.acts.set p m }
    rw [List.set_set]
  have same : Kp379.setActs wd p (Kp379.actsAt wd p) = wd := by
    show ({ wd with acts := wd.acts.set p (wd.acts.getD p []) } : Kp379.World) = wd
    have : wd.acts.set p (wd.acts.getD p []) = wd.acts := by
      rw [List.getD_eq_getElem?_getD, List.getElem?_eq_getElem hp]
      exact List.set_getElem_self hp
    rw [this]
  suffices hs : ∀ j, j ≤ (Kp379.actsAt wd p).length → (List.range j).foldl (fun (u : Kp379.World) (a : Nat) => let x := Kp379.actAt u p a
      if x.turn != 0 && !Kp380.hasTwin u p x && decide ((Kp379.actsAt u p).length < Kp379.ACTS) then Kp379.setActs u p (Kp379.actsAt u p ++ [{ x with turn := 0, lock := false }]) else u) wd = Kp379.setActs wd p (twins (Kp379.actsAt wd p) j) from hs _ (Nat.le_refl _)
  intro j hj
  induction j with
  | zero =>
    show wd = Kp379.setActs wd p (twins (Kp379.actsAt wd p) 0)
    have : twins (Kp379.actsAt wd p) 0 = Kp379.actsAt wd p := rfl
    rw [this, same]
  | succ j ih =>
    rw [List.range_succ, List.foldl_append, ih (by omega), twins_succ]
    show (let x := Kp379.actAt (Kp379.setActs wd p (twins (Kp379.actsAt wd p) j)) p j
      if x.turn != 0 && !Kp380.hasTwin (Kp379.setActs wd p (twins (Kp379.actsAt wd p) j)) p x && decide ((Kp379.actsAt (Kp379.setActs wd p (twins (Kp379.actsAt wd p) j)) p).length < Kp379.ACTS) then Kp379.setActs (Kp379.setActs wd p (twins (Kp379.actsAt wd p) j)) p (Kp379.actsAt (Kp379.setActs wd p (twins (Kp379.actsAt wd p) j)) p ++ [{ x with turn := 0, lock := false }]) else Kp379.setActs wd p (twins (Kp379.actsAt wd p) j)) = _
    have ex : Kp379.actAt (Kp379.setActs wd p (twins (Kp379.actsAt wd p) j)) p j = (Kp379.actsAt wd p).getD j ⟨[], [], 0, false⟩ := by
      unfold Kp379.actAt
      rw [at_]
      obtain ⟨l, e⟩ := twins_more (Kp379.actsAt wd p) j
      rw [e, List.getD_eq_getElem?_getD, List.getElem?_append_left (by omega), List.getD_eq_getElem?_getD]
    simp only [ex, at_, set2]
    have ec : (((Kp379.actsAt wd p).getD j ⟨[], [], 0, false⟩).turn != 0 && !Kp380.hasTwin (Kp379.setActs wd p (twins (Kp379.actsAt wd p) j)) p ((Kp379.actsAt wd p).getD j ⟨[], [], 0, false⟩)) = lonelyIn (twins (Kp379.actsAt wd p) j) ((Kp379.actsAt wd p).getD j ⟨[], [], 0, false⟩) := by
      unfold lonelyIn Kp380.hasTwin
      rw [at_]
      rfl
    simp only [ec]
    show (if (_ && decide ((twins (Kp379.actsAt wd p) j).length < 3)) = true then _ else _) = Kp379.setActs wd p (if _ then _ else _)
    split <;> rfl
/-- what stood ahead of a new list is seen without it, too -/
theorem er_cons {S : List Addr} {H H' : Hp} {la : Addr} (e : Ex H H') (hla : H la = none) : Ex (er S H) (er (la :: S) H') := fun b o hb => by
  obtain ⟨h1, h2⟩ := er_some hb
  refine er_of (e _ _ h1) fun m => ?_
  rcases List.mem_cons.mp m with z | z
  · rw [z, hla] at h1
    cases h1
  · exact h2 z
theorem er_less {S : List Addr} {H : Hp} {la : Addr} : Ex (er (la :: S) H) (er S H) := fun b o hb => by
  obtain ⟨h1, h2⟩ := er_some hb
  exact er_of h1 fun m => h2 (List.mem_cons_of_mem _ m)
def twinsTo (h : Kp381.House) (p : Nat) : Kp381.State × List Int := if (!Kp379.isPlace h.world p) = true then (some h, [-2]) else (some { h with world := Kp379.setActs h.world p (twins (Kp379.actsAt h.world p) (Kp379.actsAt h.world p).length) }, [(((twins (Kp379.actsAt h.world p) (Kp379.actsAt h.world p).length).length - (Kp379.actsAt h.world p).length : Nat) : Int)])
def sp_add_twins (n : Nm) : Sp := fun vs H Q _ => ∃ (X : List Addr) (ph : Addr) (S : List Addr) (h : Kp381.House) (p : Nat), vs = [.ref ph, .int (p : Int)] ∧ StAt n X (some h) ph S H ∧ Told n X (guarded h (twinsTo h p)).1 (guarded h (twinsTo h p)).2 ph S H Q
theorem ok_add_twins (D : Ds n K mg) : FnOk P w K mg base CX0 12 n.f_add_twins n.fd_add_twins P_add_twins (sp_add_twins n) := by
  have G_settle := ok_settle (P := P) (w := w) (base := base) D
  have G_has_place := ok_has_place (P := P) (w := w) (base := base) D
  have G_is_lonely := ok_is_lonely (P := P) (w := w) (base := base) D
  have G_twin_of := ok_twin_of (P := P) (w := w) (base := base) D
  refine D.d_add_twins.F.ok sc_add_twins (fun vs H Q E h => ?_) (fun cdv A outer sh H vs Q E hr h => ?_)
  · obtain ⟨X, ph, S, h, p, rfl, _⟩ := h
    rfl
  · obtain ⟨X, ph, S, h, p, rfl, hS, kQ⟩ := h
    refine ⟨_, (pss_cons (ps_if (pt_not (pt_val (pe_call G_has_place (hr.mono (by decide)) rfl D.d_has_place.g D.d_has_place.F.kp D.d_has_place.b .nil pass0 (pa_cons (pv 0) (pa_cons (pv 1) pa_nil)))))
        (pss_one (ps_ret (pe_lst (pa_cons (pe_const rfl D.g_NO_SUCH) pa_nil))))
        pss_nil)
      (pss_cons (ps_set (i := 2) sc_add_twins.nd rfl (Or.inl rfl) (pe_ix ix_list (pe_fld (pv 0) rfl) (pv 1) (fun _ _ => rfl)))
      (pss_cons (ps_set (i := 3) sc_add_twins.nd rfl (Or.inl rfl) (pe_callTy call_list_of (by rfl) D.n_list (by decide +kernel) (pa_cons (pv 2) pa_nil)))
      (pss_cons (ps_for PassesOwn.never rfl (pi_list (pv 2)) (pg_name (i := 4) sc_add_twins.nd rfl (Or.inl rfl))
        (pss_one (ps_if (PW.pt (pw_and (pt_val (pe_call G_is_lonely (hr.mono (by decide)) rfl D.d_is_lonely.g D.d_is_lonely.F.kp D.d_is_lonely.b .nil pass0 (pa_cons (pv 4) (pa_cons (pv 3) pa_nil)))) (pw_and1 (pt_cmpR op_lt (pe_callB call_len_seq (by rfl) D.n_len PySem.boot_len (pa_cons (pv 3) pa_nil)) (pe_const rfl D.g_MOST_ACTS) (nomark _)))))
          (pss_one (ps_expr (pe_bm PySem.F.plainAttrs_list PySem.F.slot_list_append PySem.F.type_list_append mt_append (pv 3) (pa_cons (pe_call G_twin_of (hr.mono (by decide)) rfl D.d_twin_of.g D.d_twin_of.F.kp D.d_twin_of.b .nil pass0 (pa_cons (pv 4) pa_nil)) pa_nil))))
          pss_nil)))
      (pss_one (ps_ret (pe_call G_settle (hr.mono (by decide)) rfl D.d_settle.g D.d_settle.F.kp D.d_settle.b .nil pass0 (pa_cons (pv 0) (pa_cons (pv 1) (pa_cons (pv 3) (pa_cons (pe_op op_sub (pe_callB call_len_seq (by rfl) D.n_len PySem.boot_len (pa_cons (pv 3) pa_nil)) (pe_callB call_len_seq (by rfl) D.n_len PySem.boot_len (pa_cons (pv 2) pa_nil))) pa_nil))))))))))), ?_⟩
    have hS' := hS
    obtain ⟨off, dx, ao, so, lo, po, vas, vlog, vps, rfl, a⟩ := hS'
    refine Evl.q_when (Evl.et_not (Evl.et_B (ev_has_place a.read rfl rfl))) (fun c H1 e1 => ?_) (fun c H1 e1 => ?_)
    · refine ret_one ?_
      unfold twinsTo at kQ
      rw [if_pos c, guarded_no (by decide)] at kQ
      exact (kQ.pure hS).mono e1
    · unfold twinsTo at kQ
      rw [if_neg (by rw [c]; decide)] at kQ
      have hp : p < h.world.n := by simpa [Kp379.isPlace] using c
      have a1 := a.mono e1
      have off1 := off.mono e1
      obtain ⟨pl, vls, hvp, hpl, hEl⟩ := a1.there hp
      obtain ⟨_, g2, g3⟩ := a1.ww.at_ hp
      have hpl1 := (er_some hpl).1
      refine ⟨_, rfl, ph, n.C_House, dx, _, _, rfl, a1.hp, D.c_House.cl, D.House_acts, houseF_acts, _, rfl, ao, _, _, _, rfl, rfl, sqL a1.ha, atI_nat hvp, ?_⟩
      refine ⟨_, rfl, pl, vls, rfl, Or.inl (sqL hpl1), fun la hla => ?_⟩
      have e3 : Ex H1 (upd H1 la (.lst vls)) := Evl.Ex.new hla
      have nla := a1.new off1 hla
      refine ⟨_, rfl, pl, rfl, ⟨vls, sqL (e3 _ _ hpl1)⟩, for_list (K := K) (a := pl) (xs := vls) (fun j σ H' => Ex H1 H' ∧ ∃ (vl2 : List V) (o4 : Option V), H' la = some (.lst vl2) ∧ Each (IsAct n.C_Act) (twins (Kp379.actsAt h.world p) j) vl2 (er (la :: ([ph, ao, lo, po] ++ X)) H') ∧ σ = [some (.ref ph), some (.int (p : Int)), some (.ref pl), some (.ref la), o4])
        ⟨e3, vls, none, upd_same, hEl.mono fun b v hb => hb.mono (er_cons e3 hla), rfl⟩ (fun j σ H' _ hh => sqL (hh.1 _ _ hpl1)) ?_ ?_⟩
      · rintro j y σ H' hj ⟨x1, vl2, o4, x2, x3, rfl⟩
        obtain ⟨ac, hac, hA⟩ := hEl.back hj
        have jl := (List.getElem?_eq_some_iff.mp hac).1
        have ga : (Kp379.actsAt h.world p).getD j ⟨[], [], 0, false⟩ = ac := by rw [List.getD_eq_getElem?_getD, hac]; rfl
        obtain ⟨w3, ww3⟩ := twins_wf g2 g3 j (by omega)
        have hA1 : IsAct n.C_Act ac y H' := (hA.mono (er_mono x1)).mono (er_ex _ _)
        have hL1 : IsLst (IsAct n.C_Act) (twins (Kp379.actsAt h.world p) j) (.ref la) H' := ⟨la, vl2, rfl, x2, x3.mono fun b v hb => hb.mono (er_ex _ _)⟩
        refine ⟨_, rfl, _, rfl, _, _, ac, _, rfl, hA1, hL1, by omega, fun u H2 e4 hu => ?_⟩
        subst hu
        have hla2 := e4 _ _ x2
        refine ⟨_, rfl, if_c (fun c1 => ?_) (fun c1 => ?_)⟩
        · refine ⟨_, rfl, la, vl2, rfl, Or.inl (sqL hla2), _, _, rfl, rfl, _, rfl, if_c (fun c2 => ?_) (fun c2 => ?_)⟩
          · have lt3 : (twins (Kp379.actsAt h.world p) j).length < 3 := by
              have := of_decide_eq_true c2
              rw [x3.1] at this
              omega
            obtain ⟨pa, da, pp, pw, rfl, q1, q2, q3⟩ := hA
            have x14 := x1.trans e4
            refine ⟨_, rfl, .inl ⟨rfl, _, sqL hla2⟩, _, rfl, pa, da, pp, pw, ac, rfl, x14 _ _ (er_some q1).1, fun x dy H3 e5 nx h5 => ?_⟩
            have hla3 := e5 _ _ hla2
            refine ⟨la, vl2, .ref x, rfl, rfl, hla3, small1000 (by rw [x3.1]; omega), ?_⟩
            have x13 : Ex H1 (upd H3 la (.lst (vl2 ++ [.ref x]))) := Evl.Ex.mut (x14.trans e5) hla
            refine ⟨x13, vl2 ++ [.ref x], _, upd_same, ?_, rfl⟩
            rw [twins_succ, ga, if_pos (by rw [c1, decide_eq_true lt3]; rfl)]
            have nx' : x ∉ [ph, ao, lo, po] ++ X := (a1.mono x14).new (off1.mono x14) nx
            have dxl : x ≠ la := fun z => by rw [z, hla2] at nx; cases nx
            have nx2 : x ∉ la :: ([ph, ao, lo, po] ++ X) := fun m => by
              rcases List.mem_cons.mp m with z | z
              · exact dxl z
              · exact nx' z
            have same : er (la :: ([ph, ao, lo, po] ++ X)) (upd H3 la (.lst (vl2 ++ [.ref x]))) = er (la :: ([ph, ao, lo, po] ++ X)) H3 := er_upd List.mem_cons_self
            rw [same]
            exact Each.snoc (x3.mono fun b v hb => hb.mono (er_mono (e4.trans e5))) ⟨x, dy, pp, pw, rfl, er_of h5 nx2, er_cons (x14.trans e5) hla _ _ q2, er_cons (x14.trans e5) hla _ _ q3⟩
          · refine ⟨(x1.trans e4), vl2, _, hla2, ?_, rfl⟩
            rw [twins_succ, if_neg (by
              have := of_decide_eq_false c2
              rw [x3.1] at this
              rw [decide_eq_false (by omega), Bool.and_false]
              decide)]
            exact x3.mono fun b v hb => hb.mono (er_mono e4)
        · refine ⟨(x1.trans e4), vl2, _, hla2, ?_, rfl⟩
          rw [twins_succ, ga, if_neg (by rw [c1]; simp)]
          exact x3.mono fun b v hb => hb.mono (er_mono e4)
      · rintro σ H' ⟨x1, vl2, o4, x2, x3, rfl⟩
        rw [hEl.1] at x3
        have a7 := a1.mono x1
        obtain ⟨w3, ww3⟩ := twins_wf g2 g3 _ (Nat.le_refl _)
        have hlst : IsLst (IsAct n.C_Act) (twins (Kp379.actsAt h.world p) (Kp379.actsAt h.world p).length) (.ref la) (er ([ph, ao, lo, po] ++ X) H') := ⟨la, vl2, rfl, er_of x2 nla, x3.mono fun b v hb => hb.mono er_less⟩
        have wf := wf_setActs (p := p) a.ww w3 ww3
        obtain ⟨l, el⟩ := twins_more (Kp379.actsAt h.world p) (Kp379.actsAt h.world p).length
        have en : (vl2.length : Int) - (vls.length : Int) = (((twins (Kp379.actsAt h.world p) (Kp379.actsAt h.world p).length).length - (Kp379.actsAt h.world p).length : Nat) : Int) := by
          rw [x3.1, hEl.1, el, List.length_append]
          omega
        refine ⟨_, rfl, _, rfl, _, rfl, _, rfl, la, _, rfl, Or.inl (sqL x2), _, rfl, pl, _, rfl, Or.inl (sqL (x1 _ _ hpl1)), _, _, rfl, rfl, X, ph, dx, ao, so, lo, po, la, vas, vlog, vps, h, p, _, _, by show [V.ref ph, V.int (p : Int), V.ref la, V.int ((vl2.length : Int) - (vls.length : Int))] = _; rw [en], off1.mono x1, a7, hp, hlst, wf, (Told.settled (by omega) kQ).grow (e1.trans x1)⟩
end
end CI
/-! Going. -/
namespace CI
open PySem PySem.Spec PyProof.Rows L2
open Evl (Ex fresh_back Ev EvT EvA EvL)
open Kp379 (Stand)
/-- what a step puts into the log -/
def stepEntry (h : Kp381.House) (k luck a : Nat) : Kp381.Entry := ⟨k, a, h.now, Kp379.behind h.now (Kp379.actAt h.world h.now.p a) (Kp381.goesTo h.world (Kp379.actAt h.world h.now.p a) luck), (Kp379.actAt h.world h.now.p a).pays⟩
/-- the house behind a step -/
def stepHouse (h : Kp381.House) (e : Kp381.Entry) : Kp381.House := { h with now := e.behind_, log := h.log ++ [e] }
theorem goOne_is (h : Kp381.House) (k luck : Nat) : Kp381.goOne h k luck = (Kp379.does h.world h.now k).map fun a => (stepHouse h (stepEntry h k luck a), stepEntry h k luck a) := rfl
def standL (x : Stand) : List Int := [(x.p : Int), (x.s : Int), b2 x.locked]
theorem standL_map (x : Stand) : (standL x).map V.int = standV x := rfl
section
variable {P : Program} {w : World} {K : PySem.W.Frag} {mg : Str → Option Value} {base : Heap} {n : Nm}
/-! ### has_ended -/
def ended (h : Kp381.House) : Bool := (Kp379.actsAt h.world h.now.p).isEmpty
theorem does_ended {h : Kp381.House} (os : OkS h.world h.now) {k : Nat} (h1 : 1 ≤ k) (c : ended h = true) : Kp379.does h.world h.now k = none := does_none os h1 (List.isEmpty_iff.mp c)
def sp_has_ended (n : Nm) : Sp := fun vs H Q _ => ∃ (X : List Addr) (ph dx ao so lo po : Addr) (vas vlog vps : List V) (h : Kp381.House), vs = [.ref ph] ∧ At n X h ph dx ao so lo po vas vlog vps H ∧ RetR (fun v _ => v = .bl (ended h)) H Q
theorem ok_has_ended (D : Ds n K mg) : FnOk P w K mg base CX0 1 n.f_has_ended n.fd_has_ended P_has_ended (sp_has_ended n) := by
  refine D.d_has_ended.F.ok sc_has_ended (fun vs H Q E h => ?_) (fun cdv A outer sh H vs Q E hr h => ?_)
  · obtain ⟨X, ph, dx, ao, so, lo, po, vas, vlog, vps, h, rfl, _⟩ := h
    rfl
  · obtain ⟨X, ph, dx, ao, so, lo, po, vas, vlog, vps, h, rfl, a, kQ⟩ := h
    refine ⟨_, (pss_one (ps_ret (pe_cmpR op_eq (pe_callB call_len_seq (by rfl) D.n_len PySem.boot_len (pa_cons (pe_ix ix_list (pe_fld (pv 0) rfl) (pe_ix ix_tup (pe_fld (pv 0) rfl) pe_int (fun _ _ => rfl)) (fun _ _ => rfl)) pa_nil)) pe_int (nomark _)))), ?_⟩
    obtain ⟨so', h0, hso⟩ := a.stand
    cases h0
    obtain ⟨pl, vls, hvp, hpl, hEl⟩ := a.there a.os.1
    refine ⟨_, rfl, ph, n.C_House, dx, _, _, rfl, a.hp, D.c_House.cl, D.House_acts, houseF_acts, _, rfl, ph, n.C_House, dx, _, _, rfl, a.hp, D.c_House.cl, D.House_stand, houseF_stand, so, _, _, _, rfl, rfl, sqT hso, rfl, ao, _, _, _, rfl, rfl, sqL a.ha, atI_nat hvp, pl, vls, rfl, Or.inl (sqL (er_some hpl).1), rfl, kQ.go (Evl.Ex.refl _) ?_⟩
    show V.bl (decide (V.int ((vls.length : Nat) : Int) = V.int 0)) = .bl (ended h)
    rw [int_eq (z := 0) (b := 0) rfl, hEl.1]
    unfold ended
    congr 1
    cases Kp379.actsAt h.world h.now.p <;> simp
/-! ### next_entry -/
def sp_next_entry (n : Nm) : Sp := fun vs H Q _ => ∃ (X : List Addr) (ph dx ao so lo po : Addr) (vas vlog vps : List V) (h : Kp381.House) (k luck : Nat) (vt : V), vs = [.ref ph, .int (k : Int), .int (luck : Int), vt] ∧ Off X [ph, ao, lo, po] H ∧ At n X h ph dx ao so lo po vas vlog vps H ∧ IsTab h.world (Kp379.rowAt h.world (k - 1)) vt H ∧ 1 ≤ k ∧ k ≤ 4 ∧ luck ≤ 999 ∧ ended h = false ∧
  ∀ a, Kp379.does h.world h.now k = some a → ∀ v H2, Ex H H2 → IsEntry n (stepEntry h k luck a) v (er ([ph, ao, lo, po] ++ X) H2) → OkS h.world (stepEntry h k luck a).behind_ → (stepEntry h k luck a).pays.length = h.world.v → Q v H2
theorem ok_next_entry (D : Ds n K mg) : FnOk P w K mg base CX0 6 n.f_next_entry n.fd_next_entry P_next_entry (sp_next_entry n) := by
  have G_best_act := ok_best_act (P := P) (w := w) (base := base) D
  have G_stand_behind := ok_stand_behind (P := P) (w := w) (base := base) D
  have G_place_by_luck := ok_place_by_luck (P := P) (w := w) (base := base) D
  have G_Entry := ok_Entry_init (P := P) (w := w) (base := base) D
  refine D.d_next_entry.F.ok sc_next_entry (fun vs H Q E h => ?_) (fun cdv A outer sh H vs Q E hr h => ?_)
  · obtain ⟨X, ph, dx, ao, so, lo, po, vas, vlog, vps, h, k, luck, vt, rfl, _⟩ := h
    rfl
  · obtain ⟨X, ph, dx, ao, so, lo, po, vas, vlog, vps, h, k, luck, vt, rfl, off, a, hT, k1, k4, l9, hne, kQ⟩ := h
    refine ⟨_, (pss_cons (ps_set (i := 4) sc_next_entry.nd rfl (Or.inl rfl) (pe_fld (pv 0) rfl))
      (pss_cons (ps_set (i := 5) sc_next_entry.nd rfl (Or.inl rfl) (pe_ix ix_list (pe_fld (pv 0) rfl) (pe_ix ix_tup (pv 4) pe_int (fun _ _ => rfl)) (fun _ _ => rfl)))
      (pss_cons (ps_set (i := 6) sc_next_entry.nd rfl (Or.inl rfl) (pe_call G_best_act (hr.mono (by decide)) rfl D.d_best_act.g D.d_best_act.F.kp D.d_best_act.b .nil pass0 (pa_cons (pv 5) (pa_cons (pv 4) (pa_cons (pv 3) pa_nil)))))
      (pss_cons (ps_set (i := 7) sc_next_entry.nd rfl (Or.inl rfl) (pe_ix ix_list (pv 5) (pv 6) (fun _ _ => rfl)))
      (pss_cons (ps_set (i := 8) sc_next_entry.nd rfl (Or.inl rfl) (pe_call G_stand_behind (hr.mono (by decide)) rfl D.d_stand_behind.g D.d_stand_behind.F.kp D.d_stand_behind.b .nil pass0 (pa_cons (pv 7) (pa_cons (pv 4) (pa_cons (pe_call G_place_by_luck (hr.mono (by decide)) rfl D.d_place_by_luck.g D.d_place_by_luck.F.kp D.d_place_by_luck.b .nil pass0 (pa_cons (pe_fld (pv 7) rfl) (pa_cons (pv 2) pa_nil))) pa_nil)))))
      (pss_one (ps_ret (pe_make D.c_Entry.M G_Entry (hr.mono (by decide)) rfl D.c_Entry.g D.c_Entry.b .nil pass0 (pa_cons (pv 6) (pa_cons (pv 1) (pa_cons (pv 4) (pa_cons (pv 8) (pa_cons (pe_fld (pv 7) rfl) pa_nil))))))))))))), ?_⟩
    have es := a.es
    obtain ⟨so', h0, hso⟩ := es
    cases h0
    have hsoH := (er_some hso).1
    have hne' : Kp379.actsAt h.world h.now.p ≠ [] := fun z => by
      unfold ended at hne
      rw [z] at hne
      cases hne
    obtain ⟨pl, vls, hvp, hpl, hEl⟩ := a.there a.os.1
    obtain ⟨_, g2, g3⟩ := a.ww.at_ a.os.1
    have hplH := (er_some hpl).1
    refine ⟨_, rfl, ph, n.C_House, dx, _, _, rfl, a.hp, D.c_House.cl, D.House_stand, houseF_stand, ?_⟩
    refine ⟨_, rfl, ph, n.C_House, dx, _, _, rfl, a.hp, D.c_House.cl, D.House_acts, houseF_acts, _, rfl, so, _, _, _, rfl, rfl, sqT hsoH, rfl, ao, _, _, _, rfl, rfl, sqL a.ha, atI_nat hvp, ?_⟩
    refine ⟨_, rfl, _, rfl, _, rfl, _, _, _, h.world, _, h.now, _, bt (k - 1), rfl, ⟨pl, vls, rfl, hplH, hEl.mono fun b v hb => hb.mono (er_ex _ _)⟩, ⟨so, rfl, hsoH⟩, hT, a.ww.n4, g3, by omega, hne', a.os, rowOk a.ww _, bt_le (by omega), fun b hb => ?_⟩
    have hac : Kp379.does h.world h.now k = some b.1 := by
      have e2 : k = k - 1 + 1 := by omega
      rw [e2, does_is a.os]
      unfold step1
      rw [hb]
    obtain ⟨b', hb', hlt, ga, _⟩ := step1_some (r := Kp379.rowAt h.world (k - 1)) hne'
    have hbb : b' = b := Option.some.inj (hb'.symm.trans hb)
    subst hbb
    intro v H1 e1 hv
    subst hv
    have a1 := a.mono e1
    obtain ⟨vac, hvac, hA⟩ := hEl.2 _ _ ga
    have hA1 := hA.mono (er_mono e1)
    have hA0 := hA1
    have wa := g3 _ (List.mem_of_getElem? ga)
    obtain ⟨py, dy, pp, pw, rfl, hy, hyp, hyw⟩ := hA1
    refine ⟨_, rfl, _, rfl, pl, _, _, _, rfl, rfl, sqL (e1 _ _ hplH), atI_nat hvac, ?_⟩
    refine ⟨_, rfl, _, rfl, _, rfl, py, n.C_Act, dy, _, _, rfl, (er_some hy).1, D.c_Act.cl, D.Act_weights, actF_weights, _, rfl, h.world, _, pw, luck, rfl, (er_some hyw).1, wa, a.ww.n4, l9, fun v H2 e2 hv => ?_⟩
    obtain ⟨rfl, hq⟩ := hv
    refine ⟨_, _, _, _, h.now, rfl, (hA0.mono (er_ex _ _)).mono e2, ⟨so, rfl, e2 _ _ (e1 _ _ hsoH)⟩, fun v H3 e3 hv => ?_⟩
    obtain ⟨pe, rfl, hpe⟩ := hv
    have e13 := (e1.trans e2).trans e3
    have a3 := a.mono e13
    have off3 := off.mono e13
    refine ⟨_, rfl, _, rfl, _, rfl, _, rfl, _, rfl, py, n.C_Act, dy, _, _, rfl, (e2.trans e3) _ _ (er_some hy).1, D.c_Act.cl, D.Act_pays, actF_pays, ?_⟩
    intro x dx' nx nd ne
    have npe := a3.tup off3 hpe
    have nx' := a3.new off3 nx
    refine ⟨x, dx', so, pe, pp, _, _, rfl, upd_same, fun H4 h4 k4 => ⟨rfl, ?_⟩⟩
    have e4 : Ex H3 H4 := Same.made nx nd k4
    have e14 : Ex H1 H4 := (e2.trans e3).trans e4
    exact kQ b'.1 hac _ H4 (e13.trans e4) ⟨x, dx', so, pe, pp, rfl, er_of h4 nx', er_mono (e13.trans e4) _ _ hso, er_of (e4 _ _ hpe) npe, er_mono e14 _ _ hyp⟩ (behind_ok a.os wa hq) wa.pl
/-! ### do_entry -/
def sp_do_entry (n : Nm) : Sp := fun vs H Q _ => ∃ (X : List Addr) (ph dx ao so lo po : Addr) (vas vlog vps : List V) (h : Kp381.House) (e : Kp381.Entry) (v : V), vs = [.ref ph, v] ∧ At n X h ph dx ao so lo po vas vlog vps H ∧ IsEntry n e v (er ([ph, ao, lo, po] ++ X) H) ∧ OkS h.world e.behind_ ∧ e.pays.length = h.world.v ∧ h.log.length < 16 ∧
  ∀ pf : Addr, At n X (stepHouse h e) ph dx ao pf lo po vas (vlog ++ [v]) vps (upd (upd H lo (.lst (vlog ++ [v]))) ph (.ins n.C_House dx (houseF h.world.n h.world.v ao pf lo po))) → Q .non (upd (upd H lo (.lst (vlog ++ [v]))) ph (.ins n.C_House dx (houseF h.world.n h.world.v ao pf lo po)))
theorem ok_do_entry (D : Ds n K mg) : FnOk P w K mg base CX0 1 n.f_do_entry n.fd_do_entry P_do_entry (sp_do_entry n) := by
  refine D.d_do_entry.F.ok sc_do_entry (fun vs H Q E h => ?_) (fun cdv A outer sh H vs Q E hr h => ?_)
  · obtain ⟨X, ph, dx, ao, so, lo, po, vas, vlog, vps, h, e, v, rfl, _⟩ := h
    rfl
  · obtain ⟨X, ph, dx, ao, so, lo, po, vas, vlog, vps, h, e, v, rfl, a2, hent, okb, hpl, n16, kQ⟩ := h
    refine ⟨_, (pss_cons (ps_expr (pe_bm PySem.F.plainAttrs_list PySem.F.slot_list_append PySem.F.type_list_append mt_append (pe_fld (pv 0) rfl) (pa_cons (pv 1) pa_nil)))
      (pss_one (ps_fld (pv 0) (pe_fld (pv 1) rfl) rfl))), ?_⟩
    have hent0 := hent
    obtain ⟨pe, de, pb, pf, pp, rfl, h1, h2, h3, h4⟩ := hent
    have ll := a2.ll
    refine ⟨_, rfl, ph, n.C_House, dx, _, _, rfl, a2.hp, D.c_House.cl, D.House_log, houseF_log, .inl ⟨rfl, _, sqL a2.hl⟩, _, rfl, lo, vlog, _, rfl, rfl, a2.hl, small1000 (by rw [a2.el.1]; omega), ?_⟩
    have a3 := a2.log1 hent0 n16 hpl
    have same3 : er ([ph, ao, lo, po] ++ X) (upd H lo (.lst (vlog ++ [.ref pe]))) = er ([ph, ao, lo, po] ++ X) H := er_upd (by simp)
    have p1 := er_ex _ _ _ _ (by rw [same3]; exact h1 : er ([ph, ao, lo, po] ++ X) (upd H lo (.lst (vlog ++ [.ref pe]))) pe = _)
    refine ⟨_, rfl, pe, n.C_Entry, de, _, _, rfl, p1, D.c_Entry.cl, D.Entry_behind, entF_behind, _, rfl, ph, n.C_House, dx, _, rfl, a3.hp, D.c_House.cl, D.House_stand, houseF_small, ?_⟩
    rw [put_stand]
    exact kQ pf (a3.setStand (t := pf) (x := e.behind_) ⟨pf, rfl, by rw [same3]; exact h3⟩ okb)
/-! ### tell_ahead -/
theorem ev_has_ended {σ : L2.St} {H : Hp} {X : List Addr} {ph dx ao so lo po : Addr} {vas vlog vps : List V} {h : Kp381.House} {i : Nat} (a : At n X h ph dx ao so lo po vas vlog vps H) (h1 : σ[i]? = some (some (.ref ph))) : Ev (tCall (sp_has_ended n) [] E0 (tCons (tVar i) tNil)) σ H (.bl (ended h)) :=
  Evl.ev_call (Evl.ea_cons (Evl.ev_var h1) Evl.ea_nil) fun H1 e Q q _ => ⟨X, ph, dx, ao, so, lo, po, vas, vlog, vps, h, rfl, a.mono e, fun u H2 e2 hu => by rw [hu]; exact q H2 e2⟩
def stepOut (h : Kp381.House) (k luck a : Nat) : List Int := (a : Int) :: standL (stepEntry h k luck a).behind_
def aheadOut (h : Kp381.House) (k luck : Nat) : List Int := if (!(decide (1 ≤ k) && decide (k ≤ 4)) || decide (999 < luck)) = true then [-22] else match Kp379.does h.world h.now k with
  | none => [-33]
  | some a => stepOut h k luck a
def sp_tell_ahead (n : Nm) : Sp := fun vs H Q _ => ∃ (X : List Addr) (ph dx ao so lo po : Addr) (vas vlog vps : List V) (h : Kp381.House) (k luck : Nat), vs = [.ref ph, .int (k : Int), .int (luck : Int)] ∧ Off X [ph, ao, lo, po] H ∧ At n X h ph dx ao so lo po vas vlog vps H ∧ RetI (aheadOut h k luck) H Q
theorem ok_tell_ahead (D : Ds n K mg) : FnOk P w K mg base CX0 11 n.f_tell_ahead n.fd_tell_ahead P_tell_ahead (sp_tell_ahead n) := by
  have G_may_go := ok_may_go (P := P) (w := w) (base := base) D
  have G_has_ended := ok_has_ended (P := P) (w := w) (base := base) D
  have G_next_entry := ok_next_entry (P := P) (w := w) (base := base) D
  have G_worth_table := ok_worth_table (P := P) (w := w) (base := base) D
  refine D.d_tell_ahead.F.ok sc_tell_ahead (fun vs H Q E h => ?_) (fun cdv A outer sh H vs Q E hr h => ?_)
  · obtain ⟨X, ph, dx, ao, so, lo, po, vas, vlog, vps, h, k, luck, rfl, _⟩ := h
    rfl
  · obtain ⟨X, ph, dx, ao, so, lo, po, vas, vlog, vps, h, k, luck, rfl, off, a, kQ⟩ := h
    refine ⟨_, (pss_cons (ps_if (PW.pt (pw_or (pt_not (pt_val (pe_call G_may_go (hr.mono (by decide)) rfl D.d_may_go.g D.d_may_go.F.kp D.d_may_go.b .nil pass0 (pa_cons (pv 1) pa_nil)))) (pw_or1 (pt_cmpR op_gt (pv 2) (pe_const rfl D.g_MOST_LUCK) (nomark _)))))
        (pss_one (ps_ret (pe_lst (pa_cons (pe_const rfl D.g_NOT_AS_TOLD) pa_nil))))
        pss_nil)
      (pss_cons (ps_if (pt_val (pe_call G_has_ended (hr.mono (by decide)) rfl D.d_has_ended.g D.d_has_ended.F.kp D.d_has_ended.b .nil pass0 (pa_cons (pv 0) pa_nil)))
        (pss_one (ps_ret (pe_lst (pa_cons (pe_const rfl D.g_NO_ACT) pa_nil))))
        pss_nil)
      (pss_cons (ps_set (i := 3) sc_tell_ahead.nd rfl (Or.inl rfl) (pe_call G_next_entry (hr.mono (by decide)) rfl D.d_next_entry.g D.d_next_entry.F.kp D.d_next_entry.b .nil pass0 (pa_cons (pv 0) (pa_cons (pv 1) (pa_cons (pv 2) (pa_cons (pe_call G_worth_table (hr.mono (by decide)) rfl D.d_worth_table.g D.d_worth_table.F.kp D.d_worth_table.b .nil pass0 (pa_cons (pv 0) (pa_cons (pe_op op_sub (pv 1) pe_int) pa_nil))) pa_nil))))))
      (pss_one (ps_ret (pe_op op_cat (pe_lst (pa_cons (pe_fld (pv 3) rfl) pa_nil)) (pe_callTy call_list_of (by rfl) D.n_list (by decide +kernel) (pa_cons (pe_fld (pv 3) rfl) pa_nil)))))))), ?_⟩
    unfold aheadOut at kQ
    refine Evl.q_when (Evl.et_or (Evl.et_not (Evl.et_B (ev_may_go (n := n) (k := k) rfl))) fun _ => et_gt (m := 999) (x := luck) (Evl.ev_var rfl)) (fun c H1 e1 => ?_) (fun c H1 e1 => ?_)
    · refine ret_one ?_
      rw [if_pos c] at kQ
      exact kQ.mono e1
    · rw [if_neg (by rw [c]; decide)] at kQ
      simp only [Bool.or_eq_false_iff, Bool.not_eq_false', Bool.and_eq_true, decide_eq_true_eq, decide_eq_false_iff_not] at c
      refine Evl.q_when (Evl.et_B (ev_has_ended (a.mono e1) rfl)) (fun c2 H2 e2 => ?_) (fun c2 H2 e2 => ?_)
      · refine ret_one ?_
        rw [does_ended a.os c.1.1 c2] at kQ
        exact kQ.mono (e1.trans e2)
      · have e12 := e1.trans e2
        have a2 := a.mono e12
        have es : (k : Int) - 1 = ((k - 1 : Nat) : Int) := by omega
        refine ⟨_, rfl, _, rfl, _, rfl, _, rfl, _, rfl, _, _, rfl, rfl, _, h.world, k - 1, by show [V.ref ph, V.int ((k : Int) - 1)] = _; rw [es], a2.read, a.ww, by omega, fun vt H3 e3 hT => ?_⟩
        have e13 := e12.trans e3
        refine ⟨X, ph, dx, ao, so, lo, po, vas, vlog, vps, h, k, luck, vt, rfl, off.mono e13, a.mono e13, hT, c.1.1, c.1.2, by omega, c2, fun ac hac v H4 e4 hent okb _ => ?_⟩
        rw [hac] at kQ
        obtain ⟨pe, de, pb, pf, pp, rfl, h1, h2, h3, h4⟩ := hent
        refine ⟨_, rfl, pe, n.C_Entry, de, _, _, rfl, (er_some h1).1, D.c_Entry.cl, D.Entry_number, entF_number, by show 1 ≤ sizeLine; decide, fun r1 hr1 => ?_⟩
        have x1 := Evl.Ex.new (o := .lst [.int (ac : Int)]) hr1
        refine ⟨_, rfl, pe, n.C_Entry, de, _, _, rfl, x1 _ _ (er_some h1).1, D.c_Entry.cl, D.Entry_behind, entF_behind, pf, _, rfl, Or.inr (sqT (x1 _ _ (er_some h3).1)), fun r2 hr2 => ?_⟩
        have x2 := Evl.Ex.new (o := .lst (standV (stepEntry h k luck ac).behind_)) hr2
        refine ⟨r1, r2, _, _, rfl, rfl, x2 _ _ upd_same, upd_same, by show 4 ≤ sizeLine; decide, fun r3 hr3 => ?_⟩
        exact (kQ.mono ((e13.trans e4).trans (x1.trans x2))).new hr3
/-! ### go -/
def goTo (h : Kp381.House) (k luck : Nat) : Kp381.State × List Int := if (!(decide (1 ≤ k) && decide (k ≤ 4)) || decide (999 < luck)) = true then (some h, [-22]) else if h.log.length = 16 then (some h, [-28]) else match Kp379.does h.world h.now k with
  | none => (some h, [-33])
  | some a => (some (stepHouse h (stepEntry h k luck a)), stepOut h k luck a)
def sp_go (n : Nm) : Sp := fun vs H Q _ => ∃ (X : List Addr) (ph : Addr) (S : List Addr) (h : Kp381.House) (k luck : Nat), vs = [.ref ph, .int (k : Int), .int (luck : Int)] ∧ StAt n X (some h) ph S H ∧ Told n X (goTo h k luck).1 (goTo h k luck).2 ph S H Q
theorem ok_go (D : Ds n K mg) : FnOk P w K mg base CX0 11 n.f_go n.fd_go P_go (sp_go n) := by
  have G_may_go := ok_may_go (P := P) (w := w) (base := base) D
  have G_has_ended := ok_has_ended (P := P) (w := w) (base := base) D
  have G_next_entry := ok_next_entry (P := P) (w := w) (base := base) D
  have G_worth_table := ok_worth_table (P := P) (w := w) (base := base) D
  have G_do_entry := ok_do_entry (P := P) (w := w) (base := base) D
  refine D.d_go.F.ok sc_go (fun vs H Q E h => ?_) (fun cdv A outer sh H vs Q E hr h => ?_)
  · obtain ⟨X, ph, S, h, k, luck, rfl, _⟩ := h
    rfl
  · obtain ⟨X, ph, S, h, k, luck, rfl, hS, kQ⟩ := h
    refine ⟨_, (pss_cons (ps_if (PW.pt (pw_or (pt_not (pt_val (pe_call G_may_go (hr.mono (by decide)) rfl D.d_may_go.g D.d_may_go.F.kp D.d_may_go.b .nil pass0 (pa_cons (pv 1) pa_nil)))) (pw_or1 (pt_cmpR op_gt (pv 2) (pe_const rfl D.g_MOST_LUCK) (nomark _)))))
        (pss_one (ps_ret (pe_lst (pa_cons (pe_const rfl D.g_NOT_AS_TOLD) pa_nil))))
        pss_nil)
      (pss_cons (ps_if (pt_cmpR op_eq (pe_callB call_len_seq (by rfl) D.n_len PySem.boot_len (pa_cons (pe_fld (pv 0) rfl) pa_nil)) (pe_const rfl D.g_MOST_ENTRIES) (nomark _))
        (pss_one (ps_ret (pe_lst (pa_cons (pe_const rfl D.g_FULL) pa_nil))))
        pss_nil)
      (pss_cons (ps_if (pt_val (pe_call G_has_ended (hr.mono (by decide)) rfl D.d_has_ended.g D.d_has_ended.F.kp D.d_has_ended.b .nil pass0 (pa_cons (pv 0) pa_nil)))
        (pss_one (ps_ret (pe_lst (pa_cons (pe_const rfl D.g_NO_ACT) pa_nil))))
        pss_nil)
      (pss_cons (ps_set (i := 3) sc_go.nd rfl (Or.inl rfl) (pe_call G_next_entry (hr.mono (by decide)) rfl D.d_next_entry.g D.d_next_entry.F.kp D.d_next_entry.b .nil pass0 (pa_cons (pv 0) (pa_cons (pv 1) (pa_cons (pv 2) (pa_cons (pe_call G_worth_table (hr.mono (by decide)) rfl D.d_worth_table.g D.d_worth_table.F.kp D.d_worth_table.b .nil pass0 (pa_cons (pv 0) (pa_cons (pe_op op_sub (pv 1) pe_int) pa_nil))) pa_nil))))))
      (pss_cons (ps_expr (pe_call G_do_entry (hr.mono (by decide)) rfl D.d_do_entry.g D.d_do_entry.F.kp D.d_do_entry.b .nil pass0 (pa_cons (pv 0) (pa_cons (pv 3) pa_nil))))
      (pss_one (ps_ret (pe_op op_cat (pe_lst (pa_cons (pe_fld (pv 3) rfl) pa_nil)) (pe_callTy call_list_of (by rfl) D.n_list (by decide +kernel) (pa_cons (pe_fld (pv 3) rfl) pa_nil)))))))))), ?_⟩
    have hS' := hS
    obtain ⟨off, dx, ao, so, lo, po, vas, vlog, vps, rfl, a⟩ := hS'
    refine Evl.q_when (Evl.et_or (Evl.et_not (Evl.et_B (ev_may_go (n := n) (k := k) rfl))) fun _ => et_gt (m := 999) (x := luck) (Evl.ev_var rfl)) (fun c H1 e1 => ?_) (fun c H1 e1 => ?_)
    · refine ret_one ?_
      unfold goTo at kQ
      rw [if_pos c] at kQ
      exact (kQ.pure hS).mono e1
    · unfold goTo at kQ
      rw [if_neg (by rw [c]; decide)] at kQ
      simp only [Bool.or_eq_false_iff, Bool.not_eq_false', Bool.and_eq_true, decide_eq_true_eq, decide_eq_false_iff_not] at c
      have a1 := a.mono e1
      have ll := a.ll
      refine ⟨_, rfl, ph, n.C_House, dx, _, _, rfl, a1.hp, D.c_House.cl, D.House_log, houseF_log, lo, vlog, rfl, Or.inl (sqL a1.hl), rfl, _, rfl, ?_⟩
      have elen : decide (V.int ((vlog.length : Nat) : Int) = V.int 16) = decide (h.log.length = 16) := by
        rw [int_eq (z := 16) (b := 16) rfl, a.el.1]
      refine if_c (fun c2 => ?_) (fun c2 => ?_)
      · refine ret_one ?_
        rw [elen] at c2
        rw [if_pos (of_decide_eq_true c2)] at kQ
        exact (kQ.pure hS).mono e1
      · rw [elen] at c2
        have n16 := of_decide_eq_false c2
        rw [if_neg n16] at kQ
        refine Evl.q_when (Evl.et_B (ev_has_ended a1 rfl)) (fun c3 H2 e2 => ?_) (fun c3 H2 e2 => ?_)
        · refine ret_one ?_
          rw [does_ended a.os c.1.1 c3] at kQ
          exact (kQ.pure hS).mono (e1.trans e2)
        · have e12 := e1.trans e2
          have a2 := a.mono e12
          have es : (k : Int) - 1 = ((k - 1 : Nat) : Int) := by omega
          refine ⟨_, rfl, _, rfl, _, rfl, _, rfl, _, rfl, _, _, rfl, rfl, _, h.world, k - 1, by show [V.ref ph, V.int ((k : Int) - 1)] = _; rw [es], a2.read, a.ww, by omega, fun vt H3 e3 hT => ?_⟩
          have e13 := e12.trans e3
          refine ⟨X, ph, dx, ao, so, lo, po, vas, vlog, vps, h, k, luck, vt, rfl, off.mono e13, a.mono e13, hT, c.1.1, c.1.2, by omega, c3, fun ac hac v H4 e4 hent okb hpl => ?_⟩
          rw [hac] at kQ
          simp only at kQ
          have e14 := e13.trans e4
          refine ⟨_, rfl, _, rfl, X, ph, dx, ao, so, lo, po, vas, vlog, vps, h, _, v, rfl, a.mono e14, hent, okb, hpl, by omega, fun pf0 a5 => ?_⟩
          obtain ⟨pe, de, pb, pf, pp, rfl, h1, h2, h3, h4⟩ := hent
          have same : er ([ph, ao, lo, po] ++ X) (upd (upd H4 lo (.lst (vlog ++ [.ref pe]))) ph (.ins n.C_House dx (houseF h.world.n h.world.v ao pf0 lo po))) = er ([ph, ao, lo, po] ++ X) H4 := by
            rw [er_upd (by simp), er_upd (by simp)]
          have kp : ∀ b o, H b = some o → b ∉ [ph, ao, lo, po] → (upd (upd H4 lo (.lst (vlog ++ [.ref pe]))) ph (.ins n.C_House dx (houseF h.world.n h.world.v ao pf0 lo po))) b = some o := fun b o hb nb => by
            rw [upd_ne (fun z => nb (by rw [z]; simp)), upd_ne (fun z => nb (by rw [z]; simp))]
            exact e14 _ _ hb
          have q1 := er_ex _ _ _ _ (by rw [same]; exact h1 : er ([ph, ao, lo, po] ++ X) (upd (upd H4 lo (.lst (vlog ++ [.ref pe]))) ph (.ins n.C_House dx (houseF h.world.n h.world.v ao pf0 lo po))) pe = _)
          have q3 := er_ex _ _ _ _ (by rw [same]; exact h3 : er ([ph, ao, lo, po] ++ X) (upd (upd H4 lo (.lst (vlog ++ [.ref pe]))) ph (.ins n.C_House dx (houseF h.world.n h.world.v ao pf0 lo po))) pf = _)
          refine ⟨_, rfl, pe, n.C_Entry, de, _, _, rfl, q1, D.c_Entry.cl, D.Entry_number, entF_number, by show 1 ≤ sizeLine; decide, fun r1 hr1 => ?_⟩
          have x1 := Evl.Ex.new (o := .lst [.int (ac : Int)]) hr1
          refine ⟨_, rfl, pe, n.C_Entry, de, _, _, rfl, x1 _ _ q1, D.c_Entry.cl, D.Entry_behind, entF_behind, pf, _, rfl, Or.inr (sqT (x1 _ _ q3)), fun r2 hr2 => ?_⟩
          have x2 := Evl.Ex.new (o := .lst (standV (stepEntry h k luck ac).behind_)) hr2
          refine ⟨r1, r2, _, _, rfl, rfl, x2 _ _ upd_same, upd_same, by show 4 ≤ sizeLine; decide, fun r3 hr3 => ?_⟩
          have x3 := Evl.Ex.new (o := .lst ([V.int (ac : Int)] ++ standV (stepEntry h k luck ac).behind_)) hr3
          exact Told.fin off kp a5 ((x1.trans x2).trans x3) (fresh_back (x1.trans x2) hr3) upd_same kQ
end
end CI
/-! A run. -/
namespace CI
open PySem PySem.Spec PyProof.Rows L2
open Evl (Ex fresh_back Ev EvT EvA EvL)
open Kp379 (Stand)
/-! ### tables stay through a step -/
theorem IsTabs.upd {wd : Kp379.World} {k : Nat} {v : V} {H : Hp} {l : Addr} {o : HO} (h : IsTabs wd k v H) (ww : WfW wd) (a : Apart l H) (a2 : ∀ q r kvs, H l = some (.lst (.ref q :: r)) → H q ≠ some (.dT kvs)) : IsTabs wd k v (upd H l o) := by
  obtain ⟨p, vs, rfl, h1, h2, h3⟩ := h
  refine ⟨p, vs, rfl, ?_, h2, fun j hj => ?_⟩
  · rw [upd_ne]
    · exact h1
    · intro z
      obtain ⟨u, h4, h5⟩ := h3 0 (Nat.zero_le _)
      obtain ⟨d, kvs, rfl, hd⟩ := h5.there
      cases vs with
      | nil => simp at h4
      | cons v0 r =>
        have : v0 = .ref d := by simpa using h4
        subst this
        exact a2 d r kvs (by rw [← z]; exact h1) hd
  · obtain ⟨u, h4, h5⟩ := h3 j hj
    exact ⟨u, h4, h5.upd (rowOk ww j) ww.v1 a⟩
section
variable {n : Nm} {X : List Addr} {h : Kp381.House} {ph dx ao so lo po : Addr} {vas vlog vps : List V} {H : Hp}
theorem At.first (a : At n X h ph dx ao so lo po vas vlog vps H) {q : Addr} {r : List V} (e : H lo = some (.lst (.ref q :: r))) : ∃ d fs, H q = some (.ins n.C_Entry d fs) := by
  have e1 : vlog = .ref q :: r := by
    have := a.hl
    rw [e] at this
    cases this
    rfl
  obtain ⟨b, _, p, d, _, _, _, hv, hp, _⟩ := a.el.back (i := 0) (v := .ref q) (by rw [e1]; rfl)
  cases hv
  exact ⟨d, _, (er_some hp).1⟩
theorem At.apart_lo (a : At n X h ph dx ao so lo po vas vlog vps H) : Apart lo H ∧ ∀ q r kvs, H lo = some (.lst (.ref q :: r)) → H q ≠ some (.dT kvs) := by
  refine ⟨⟨fun k z => ?_, fun k z => ?_, fun q r xs z w => ?_⟩, fun q r kvs z w => ?_⟩
  · rw [a.hl] at z; cases z
  · rw [a.hl] at z; cases z
  · obtain ⟨d, fs, e⟩ := a.first z
    rw [e] at w; cases w
  · obtain ⟨d, fs, e⟩ := a.first z
    rw [e] at w; cases w
theorem apart_ins {C d : Addr} {fs : List (Str × V)} (e : H ph = some (.ins C d fs)) : Apart ph H ∧ ∀ q r kvs, H ph = some (.lst (.ref q :: r)) → H q ≠ some (.dT kvs) := by
  refine ⟨⟨fun k z => ?_, fun k z => ?_, fun q r xs z w => ?_⟩, fun q r kvs z w => ?_⟩
  all_goals (rw [e] at z; cases z)
end
/-! ### the specification's run -/
def runTo (h : Kp381.House) (k : Nat) (l : List Nat) : Kp381.State × List Int := if (!(decide (1 ≤ k) && decide (k ≤ 4)) || !(decide (l.length = k) && l.all fun x => decide (x ≤ 999))) = true then (some h, [-22]) else if 16 < h.log.length + k then (some h, [-28]) else
  (some (Kp381.runFrom k h l 0).1, ((Kp381.runFrom k h l 0).2 : Int) :: standL (Kp381.runFrom k h l 0).1.now)
theorem runFrom_zero (h : Kp381.House) (ls : List Nat) (i : Nat) : Kp381.runFrom 0 h ls i = (h, i) := rfl
theorem runFrom_end {h : Kp381.House} (os : OkS h.world h.now) (m : Nat) (ls : List Nat) (i : Nat) (c : ended h = true) : Kp381.runFrom m h ls i = (h, i) := by
  cases m with
  | zero => rfl
  | succ m =>
    unfold Kp381.runFrom
    rw [goOne_is, does_ended os (by omega) c]
    rfl
theorem runFrom_step {h : Kp381.House} {m i luck a : Nat} {ls : List Nat} (hl : ls.headD 0 = luck) (c : Kp379.does h.world h.now (m + 1) = some a) : Kp381.runFrom (m + 1) h ls i = Kp381.runFrom m (stepHouse h (stepEntry h (m + 1) luck a)) ls.tail (i + 1) := by
  show (match Kp381.goOne h (m + 1) (ls.headD 0) with
    | none => (h, i)
    | some r => Kp381.runFrom m r.1 ls.tail (i + 1)) = _
  rw [goOne_is, hl, c]
  rfl
section
variable {P : Program} {w : World} {K : PySem.W.Frag} {mg : Str → Option Value} {base : Heap} {n : Nm}
/-! ### is_luck_row -/
def sp_is_luck_row (_n : Nm) : Sp := fun vs H Q _ => ∃ (v : V) (ns : List Int) (k : Nat), vs = [v, .int (k : Int)] ∧ IsInts ns v H ∧ ns.length ≤ 900 ∧ RetR (fun v _ => v = .bl (decide (ns.length = k) && ns.all fun z => decide (0 ≤ z) && decide (z ≤ 999))) H Q
theorem ok_is_luck_row (D : Ds n K mg) : FnOk P w K mg base CX0 1 n.f_is_luck_row n.fd_is_luck_row P_is_luck_row (sp_is_luck_row n) := by
  refine D.d_is_luck_row.F.ok sc_is_luck_row (fun vs H Q E h => ?_) (fun cdv A outer sh H vs Q E hr h => ?_)
  · obtain ⟨v, ns, k, rfl, _⟩ := h
    rfl
  · obtain ⟨v, ns, k, rfl, ⟨p, rfl, hp⟩, hl, kQ⟩ := h
    refine ⟨_, (pss_one (ps_ret (pe_and (pe_cmpR op_eq (pe_callB call_len_seq (by rfl) D.n_len PySem.boot_len (pa_cons (pv 0) pa_nil)) (pv 1) (nomark _)) (pe_one (pe_callB (cr_all rfl) (by rfl) D.n_all (by decide +kernel) (pa_cons (pe_lc (own := [("luck", 2)]) (g := gName 2) (tt := tYes) rfl sc_is_luck_row.nd (pi_list (pv 0)) (blkOk_by (own := [("luck", 2)]) (N := N_is_luck_row) (sc := defScope s_is_luck_row) (by decide +kernel)) (fun _ _ _ _ _ => (pg_name (i := 2) sc_is_luck_row.nd rfl (Or.inl rfl))) (fun _ _ _ _ _ => pts_nil) (fun _ _ _ _ _ => (pe_chain op_le op_le pe_int (pv 2) (pe_const rfl D.g_MOST_LUCK)))) pa_nil)))))), ?_⟩
    refine ⟨_, rfl, p, _, rfl, Or.inl (sqL hp), _, rfl, rfl, _, rfl, ?_⟩
    have el : decide (V.int (((ns.map V.int).length : Nat) : Int) = V.int (k : Int)) = decide (ns.length = k) := by
      rw [int_eq (z := (k : Int)) (b := k) rfl, List.length_map]
    refine if_c (fun c => ?_) (fun c => ?_)
    · rw [el] at c
      refine ⟨_, rfl, p, rfl, ⟨_, sqL hp⟩, fun Dl hD => ?_⟩
      refine lc_list (K := K) (a := p) (xs := ns.map V.int) (fun i H' => Ex H H' ∧ H' Dl = some (.lst (((ns.take i).map fun z => decide (0 ≤ z) && decide (z ≤ 999)).map V.bl))) ⟨Evl.Ex.new hD, upd_same⟩ (fun i H' _ h => sqL (h.1 _ _ hp)) ?_ ?_
      · rintro i y H' hi' ⟨e1, h1⟩
        obtain ⟨z, hz, rfl⟩ : ∃ z, ns[i]? = some z ∧ y = V.int z := by
          rw [List.getElem?_map] at hi'
          cases e : ns[i]? with
          | none => rw [e] at hi'; cases hi'
          | some z => rw [e] at hi'; exact ⟨z, rfl, (Option.some.inj hi').symm⟩
        have il := (List.getElem?_eq_some_iff.mp hz).1
        have fin : ∀ b : Bool, b = (decide (0 ≤ z) && decide (z ≤ 999)) → ∃ acc, H' Dl = some (.lst acc) ∧ acc.length < sizeLine ∧ (Ex H (upd H' Dl (.lst (acc ++ [.bl b]))) ∧ (upd H' Dl (.lst (acc ++ [.bl b]))) Dl = some (.lst (((ns.take (i + 1)).map fun z => decide (0 ≤ z) && decide (z ≤ 999)).map V.bl))) := by
          intro b hb
          refine ⟨_, h1, small1000 (by simp; omega), Evl.Ex.mut e1 hD, ?_⟩
          rw [List.take_add_one, hz, upd_same, hb]
          simp
        refine ⟨rfl, ?_⟩
        refine ⟨_, rfl, _, _, rfl, rfl, _, rfl, if_c (fun c => ?_) (fun c => ?_)⟩
        · refine ⟨_, _, rfl, rfl, fin _ ?_⟩
          rw [c]
          rfl
        · refine fin _ ?_
          rw [c]
          rfl
      · rintro H' ⟨e1, h1⟩
        rw [List.length_map, List.take_length] at h1
        refine ⟨Dl, _, rfl, sqL h1, kQ.go e1 ?_⟩
        rw [List.all_map, c]
        rfl
    · rw [el] at c
      refine kQ.go (Evl.Ex.refl _) ?_
      rw [c]
      rfl
/-! ### run -/
def sp_run (n : Nm) : Sp := fun vs H Q _ => ∃ (X : List Addr) (ph pr : Addr) (S : List Addr) (h : Kp381.House) (k : Nat) (l : List Nat), vs = [.ref ph, .int (k : Int), .ref pr] ∧ H pr = some (.lst ((l.map fun (m : Nat) => (m : Int)).map V.int)) ∧ pr ∉ S ∧ l.length ≤ 900 ∧ StAt n X (some h) ph S H ∧ Told n X (runTo h k l).1 (runTo h k l).2 ph S H Q
theorem luck_all (l : List Nat) : ((l.map fun (m : Nat) => (m : Int)).all fun z => decide (0 ≤ z) && decide (z ≤ 999)) = l.all fun x => decide (x ≤ 999) := by
  rw [List.all_map]
  induction l with
  | nil => rfl
  | cons x r ih =>
    rw [List.all_cons, List.all_cons, ih]
    congr 1
    show (decide ((0 : Int) ≤ (x : Int)) && decide ((x : Int) ≤ 999)) = decide (x ≤ 999)
    rw [decide_eq_true (by omega), Bool.true_and]
    exact decide_eq_decide.mpr (by omega)
theorem ok_run (D : Ds n K mg) : FnOk P w K mg base CX0 10 n.f_run n.fd_run P_run (sp_run n) := by
  have G_may_go := ok_may_go (P := P) (w := w) (base := base) D
  have G_is_luck_row := ok_is_luck_row (P := P) (w := w) (base := base) D
  have G_worth_tables := ok_worth_tables (P := P) (w := w) (base := base) D
  have G_has_ended := ok_has_ended (P := P) (w := w) (base := base) D
  have G_do_entry := ok_do_entry (P := P) (w := w) (base := base) D
  have G_next_entry := ok_next_entry (P := P) (w := w) (base := base) D
  refine D.d_run.F.ok sc_run (fun vs H Q E h => ?_) (fun cdv A outer sh H vs Q E hr h => ?_)
  · obtain ⟨X, ph, pr, S, h, k, l, rfl, _⟩ := h
    rfl
  · obtain ⟨X, ph, pr, S, h, k, l, rfl, hpr, npr, hl, hS, kQ⟩ := h
    refine ⟨_, (pss_cons (ps_if (PW.pt (pw_or (pt_not (pt_val (pe_call G_may_go (hr.mono (by decide)) rfl D.d_may_go.g D.d_may_go.F.kp D.d_may_go.b .nil pass0 (pa_cons (pv 1) pa_nil)))) (pw_or1 (pt_not (pt_val (pe_call G_is_luck_row (hr.mono (by decide)) rfl D.d_is_luck_row.g D.d_is_luck_row.F.kp D.d_is_luck_row.b .nil pass0 (pa_cons (pv 2) (pa_cons (pv 1) pa_nil))))))))
        (pss_one (ps_ret (pe_lst (pa_cons (pe_const rfl D.g_NOT_AS_TOLD) pa_nil))))
        pss_nil)
      (pss_cons (ps_if (pt_cmpR op_gt (pe_callB call_len_seq (by rfl) D.n_len PySem.boot_len (pa_cons (pe_fld (pv 0) rfl) pa_nil)) (pe_op op_sub (pe_const rfl D.g_MOST_ENTRIES) (pv 1)) (nomark _))
        (pss_one (ps_ret (pe_lst (pa_cons (pe_const rfl D.g_FULL) pa_nil))))
        pss_nil)
      (pss_cons (ps_set (i := 3) sc_run.nd rfl (Or.inl rfl) (pe_call G_worth_tables (hr.mono (by decide)) rfl D.d_worth_tables.g D.d_worth_tables.F.kp D.d_worth_tables.b .nil pass0 (pa_cons (pv 0) (pa_cons (pe_op op_sub (pv 1) pe_int) pa_nil))))
      (pss_cons (ps_set (i := 4) sc_run.nd rfl (Or.inl rfl) pe_int)
      (pss_cons (ps_while PassesOwn.never (PW.pt (pw_and (pt_cmpR op_lt (pv 4) (pv 1) (nomark _)) (pw_and1 (pt_not (pt_val (pe_call G_has_ended (hr.mono (by decide)) rfl D.d_has_ended.g D.d_has_ended.F.kp D.d_has_ended.b .nil pass0 (pa_cons (pv 0) pa_nil)))))))
        (pss_cons (ps_set (i := 5) sc_run.nd rfl (Or.inl rfl) (pe_op op_sub (pv 1) (pv 4)))
        (pss_cons (ps_expr (pe_call G_do_entry (hr.mono (by decide)) rfl D.d_do_entry.g D.d_do_entry.F.kp D.d_do_entry.b .nil pass0 (pa_cons (pv 0) (pa_cons (pe_call G_next_entry (hr.mono (by decide)) rfl D.d_next_entry.g D.d_next_entry.F.kp D.d_next_entry.b .nil pass0 (pa_cons (pv 0) (pa_cons (pv 5) (pa_cons (pe_ix ix_list (pv 2) (pv 4) (fun _ _ => rfl)) (pa_cons (pe_ix ix_list (pv 3) (pe_op op_sub (pv 5) pe_int) (fun _ _ => rfl)) pa_nil))))) pa_nil))))
        (pss_one (ps_set (i := 4) sc_run.nd rfl (Or.inl rfl) (pe_op op_add (pv 4) pe_int))))))
      (pss_one (ps_ret (pe_op op_cat (pe_lst (pa_cons (pv 4) pa_nil)) (pe_callTy call_list_of (by rfl) D.n_list (by decide +kernel) (pa_cons (pe_fld (pv 0) rfl) pa_nil)))))))))), ?_⟩
    have hS' := hS
    obtain ⟨off, dx, ao, so, lo, po, vas, vlog, vps, rfl, a⟩ := hS'
    refine Evl.q_when (Evl.et_or (Evl.et_not (Evl.et_B (ev_may_go (n := n) (k := k) rfl))) fun _ => Evl.et_not (Evl.et_B (Evl.ev_call (z := .bl (decide (l.length = k) && l.all fun x => decide (x ≤ 999))) (Evl.ea_cons (Evl.ev_var rfl) (Evl.ea_cons (Evl.ev_var rfl) Evl.ea_nil)) fun H2 e2 Q' q _ => ⟨_, l.map fun (m : Nat) => (m : Int), k, rfl, ⟨pr, rfl, e2 _ _ hpr⟩, by rw [List.length_map]; exact hl, fun u H3 e3 hu => by
      rw [List.length_map, luck_all] at hu
      rw [hu]
      exact q H3 e3⟩))) (fun c H1 e1 => ?_) (fun c H1 e1 => ?_)
    · refine ret_one ?_
      unfold runTo at kQ
      rw [if_pos c] at kQ
      exact (kQ.pure hS).mono e1
    · unfold runTo at kQ
      rw [if_neg (by rw [c]; decide)] at kQ
      simp only [Bool.or_eq_false_iff, Bool.not_eq_false', Bool.and_eq_true, decide_eq_true_eq, List.all_eq_true] at c
      obtain ⟨⟨k1, k4⟩, lk, l9⟩ := c
      have a1 := a.mono e1
      have ll := a.ll
      have elog := a.el.1
      refine ⟨_, rfl, ph, n.C_House, dx, _, _, rfl, a1.hp, D.c_House.cl, D.House_log, houseF_log, lo, vlog, rfl, Or.inl (sqL a1.hl), _, rfl, _, _, rfl, rfl, _, _, rfl, rfl, _, rfl, ?_⟩
      refine if_c (fun c2 => ?_) (fun c2 => ?_)
      · refine ret_one ?_
        rw [if_pos (by have := of_decide_eq_true c2; omega)] at kQ
        exact (kQ.pure hS).mono e1
      · have hroom : ¬ 16 < h.log.length + k := by have := of_decide_eq_false c2; omega
        rw [if_neg hroom] at kQ
        have es : (k : Int) - 1 = ((k - 1 : Nat) : Int) := by omega
        refine ⟨_, rfl, _, rfl, _, _, rfl, rfl, _, h.world, k - 1, by show [V.ref ph, V.int ((k : Int) - 1)] = _; rw [es], a1.read, a.ww, by omega, fun vw H2 e2 hW => ?_⟩
        have e12 := e1.trans e2
        have ek : ∀ G : Hp, (∀ b o, H b = some o → b ∉ [ph, ao, lo, po] → G b = some o) → G pr = some (.lst ((l.map fun (m : Nat) => (m : Int)).map V.int)) := fun G kp => kp _ _ hpr npr
        refine ⟨fun m σ H' => ∃ (i : Nat) (h' : Kp381.House) (so' : Addr) (vlog' : List V) (o5 : Option V), m = k - i ∧ i ≤ k ∧ σ = [some (.ref ph), some (.int (k : Int)), some (.ref pr), some vw, some (.int (i : Int)), o5] ∧ (∀ b o, H b = some o → b ∉ [ph, ao, lo, po] → H' b = some o) ∧ At n X h' ph dx ao so' lo po vas vlog' vps H' ∧
          IsTabs h'.world (k - 1) vw H' ∧ h'.log.length = h.log.length + i ∧ Kp381.runFrom k h l 0 = Kp381.runFrom (k - i) h' (l.drop i) i, ⟨k, 0, h, so, vlog, none, rfl, Nat.zero_le _, rfl, fun b o hb _ => e12 _ _ hb, a.mono e12, hW, rfl, rfl⟩, ?_⟩
        rintro m σ H3 ⟨i, h', so', vlog', o5, rfl, hik, rfl, kp, a3, hW3, hlg, hrun⟩
        have off3 : Off X [ph, ao, lo, po] H3 := off.next kp (fun b m => Or.inl m)
        obtain ⟨so2, h0, hso⟩ := a3.stand
        cases h0
        -- the end
        have fin : ∀ G : Hp, Ex H3 G → Kp381.runFrom k h l 0 = (h', i) → ∀ r1, G r1 = none → ∀ r2, (upd G r1 (.lst [.int (i : Int)])) r2 = none → ∀ r3, (upd (upd G r1 (.lst [.int (i : Int)])) r2 (.lst (standV h'.now))) r3 = none → Q (.ref r3) (upd (upd (upd G r1 (.lst [.int (i : Int)])) r2 (.lst (standV h'.now))) r3 (.lst ([.int (i : Int)] ++ standV h'.now))) := by
          intro G eG er r1 hr1 r2 hr2 r3 hr3
          rw [er] at kQ
          have x1 := Evl.Ex.new (o := .lst [.int (i : Int)]) hr1
          have x2 := Evl.Ex.new (o := .lst (standV h'.now)) hr2
          have x3 := Evl.Ex.new (o := .lst ([V.int (i : Int)] ++ standV h'.now)) hr3
          exact Told.fin off kp a3 (((eG.trans x1).trans x2).trans x3) (fresh_back ((eG.trans x1).trans x2) hr3) upd_same kQ
        have last : ∀ G : Hp, Ex H3 G → ∀ r1 r2, G r1 = none → (upd G r1 (.lst [.int (i : Int)])) r2 = none → (upd (upd G r1 (.lst [.int (i : Int)])) r2 (.lst (standV h'.now))) r1 = some (.lst [.int (i : Int)]) := fun G _ r1 r2 hr1 hr2 => Evl.Ex.new (o := .lst (standV h'.now)) hr2 _ _ upd_same
        refine ⟨_, rfl, _, rfl, _, _, rfl, rfl, _, rfl, ?_⟩
        by_cases ci : i < k
        · refine if_t (decide_eq_true (by omega)) ?_
          refine ⟨_, rfl, X, ph, dx, ao, so', lo, po, vas, vlog', vps, h', rfl, a3, fun vb H4 e4 hb => ?_⟩
          subst hb
          refine ⟨_, rfl, ?_⟩
          cases ce : ended h' with
          | true =>
            refine if_f rfl ?_
            refine ⟨_, rfl, by show 1 ≤ sizeLine; decide, fun r1 hr1 => ?_⟩
            have x1 := Evl.Ex.new (o := .lst [.int (i : Int)]) hr1
            refine ⟨_, rfl, ph, n.C_House, dx, _, _, rfl, (e4.trans x1) _ _ a3.hp, D.c_House.cl, D.House_stand, houseF_stand, so', _, rfl, Or.inr (sqT ((e4.trans x1) _ _ hso)), fun r2 hr2 => ?_⟩
            exact ⟨r1, r2, _, _, rfl, rfl, last H4 e4 r1 r2 hr1 hr2, upd_same, by show 4 ≤ sizeLine; decide, fun r3 hr3 => fin H4 e4 (by rw [hrun]; exact runFrom_end a3.os _ _ _ ce) r1 hr1 r2 hr2 r3 hr3⟩
          | false =>
            refine if_t rfl ?_
            have hil : i < l.length := by omega
            have hget : ((l.map fun (m : Nat) => (m : Int)).map V.int)[i]? = some (V.int ((l[i] : Nat) : Int)) := by
              rw [List.getElem?_map, List.getElem?_map, List.getElem?_eq_getElem hil]
              rfl
            have hl9 : l[i] ≤ 999 := l9 _ (List.getElem_mem hil)
            refine ⟨fun σ' G => ∃ (h2 : Kp381.House) (so2 : Addr) (vl2 : List V) (o5 : Option V), σ' = [some (.ref ph), some (.int (k : Int)), some (.ref pr), some vw, some (.int ((i : Int) + 1)), o5] ∧ (∀ b o, H b = some o → b ∉ [ph, ao, lo, po] → G b = some o) ∧ At n X h2 ph dx ao so2 lo po vas vl2 vps G ∧ IsTabs h2.world (k - 1) vw G ∧ h2.log.length = h.log.length + (i + 1) ∧ Kp381.runFrom k h l 0 = Kp381.runFrom (k - (i + 1)) h2 (l.drop (i + 1)) (i + 1), ?_, ?_⟩
            · rintro σ' G ⟨h2, so2, vl2, o5, rfl, y1, y2, y3, y4, y5⟩
              exact ⟨k - (i + 1), by omega, i + 1, h2, so2, vl2, o5, rfl, by omega, rfl, y1, y2, y3, y4, y5⟩
            · have a4 := a3.mono e4
              have eleft : (k : Int) - (i : Int) = ((k - i : Nat) : Int) := by omega
              have elix : (k : Int) - (i : Int) - 1 = ((k - i - 1 : Nat) : Int) := by omega
              obtain ⟨pw, vws, rfl, hpw, hlw, hjw⟩ := hW3.mono e4
              obtain ⟨u, hu, tu⟩ := hjw (k - i - 1) (by omega)
              refine ⟨_, rfl, _, rfl, _, _, rfl, rfl, ?_⟩
              refine ⟨_, rfl, _, rfl, _, rfl, _, rfl, _, rfl, pr, _, _, _, rfl, rfl, sqL (e4 _ _ (ek H3 kp)), atI_nat hget, _, rfl, _, rfl, _, _, rfl, rfl, pw, _, _, _, rfl, rfl, sqL hpw, at_of elix hu, ?_⟩
              refine ⟨X, ph, dx, ao, so', lo, po, vas, vlog', vps, h', k - i, l[i], u, by show [V.ref ph, V.int ((k : Int) - (i : Int)), V.int ((l[i] : Nat) : Int), u] = _; rw [eleft], off3.mono e4, a4, tu, by omega, by omega, hl9, ce, fun ac hac v H5 e5 hent okb hpl => ?_⟩
              have e45 := e4.trans e5
              have a5 := a3.mono e45
              refine ⟨X, ph, dx, ao, so', lo, po, vas, vlog', vps, h', _, v, rfl, a5, hent, okb, hpl, by omega, fun pf a6 => ?_⟩
              refine ⟨_, rfl, _, _, rfl, rfl, stepHouse h' (stepEntry h' (k - i) l[i] ac), pf, vlog' ++ [v], _, rfl, fun b o hb nb => ?_, a6, ?_, ?_, ?_⟩
              · rw [upd_ne (fun z => nb (by rw [z]; simp)), upd_ne (fun z => nb (by rw [z]; simp))]
                exact e45 _ _ (kp b o hb nb)
              · obtain ⟨p1, p2⟩ := a5.apart_lo
                have t1 := (hW3.mono e45).upd (o := .lst (vlog' ++ [v])) a5.ww p1 p2
                have hp6 : (upd H5 lo (.lst (vlog' ++ [v]))) ph = some (.ins n.C_House dx (houseF h'.world.n h'.world.v ao so' lo po)) := by
                  rw [upd_ne (fun z => a5.ne_lp z.symm)]
                  exact a5.hp
                obtain ⟨p3, p4⟩ := apart_ins hp6
                exact t1.upd a5.ww p3 p4
              · show (h'.log ++ [_]).length = _
                rw [List.length_append, hlg]
                simp
                omega
              · rw [hrun]
                have em : k - i = k - (i + 1) + 1 := by omega
                have hh : (l.drop i).headD 0 = l[i] := by
                  rw [List.headD_eq_head?_getD, List.head?_drop, List.getElem?_eq_getElem hil]
                  rfl
                have ht : (l.drop i).tail = l.drop (i + 1) := by rw [List.tail_drop]
                rw [em] at hac ⊢
                rw [runFrom_step hh hac, ht]
        · refine if_f (decide_eq_false (by omega)) ?_
          refine if_f rfl ?_
          have ek0 : k - i = 0 := by omega
          refine ⟨_, rfl, by show 1 ≤ sizeLine; decide, fun r1 hr1 => ?_⟩
          have x1 := Evl.Ex.new (o := .lst [.int (i : Int)]) hr1
          refine ⟨_, rfl, ph, n.C_House, dx, _, _, rfl, x1 _ _ a3.hp, D.c_House.cl, D.House_stand, houseF_stand, so', _, rfl, Or.inr (sqT (x1 _ _ hso)), fun r2 hr2 => ?_⟩
          exact ⟨r1, r2, _, _, rfl, rfl, last H3 (Evl.Ex.refl _) r1 r2 hr1 hr2, upd_same, by show 4 ≤ sizeLine; decide, fun r3 hr3 => fin H3 (Evl.Ex.refl _) (by rw [hrun, ek0]; rfl) r1 hr1 r2 hr2 r3 hr3⟩
end
end CI
/-! What was done, and how likely it stays who it is. -/
namespace CI
open PySem PySem.Spec PyProof.Rows L2
open Evl (Ex fresh_back Ev EvT EvA EvL)
open Kp379 (Stand)
theorem pe_fldK {X : Cx} {K : PySem.W.Frag} {e : Expr} {f : Str} {pos : PySem.Pos} {ta : TE} (hK : X.K = K) (he : PE X e ta) (hb : attributeBase e f X.env (eval e X.env) = eval e X.env) : PE X (.Attribute e f pos) (tFld K ta f) := by
  subst hK
  exact pe_fld he hb
section
variable {P : Program} {w : World} {K : PySem.W.Frag} {mg : Str → Option Value} {base : Heap} {n : Nm}
/-! ### tell_entry -/
def entryOut (h : Kp381.House) (i : Nat) : List Int := match h.log[i]? with
  | none => [-2]
  | some e => [(e.a : Int), (e.k : Int)] ++ standL e.ahead ++ standL e.behind_
def sp_tell_entry (n : Nm) : Sp := fun vs H Q _ => ∃ (X : List Addr) (ph dx ao so lo po : Addr) (vas vlog vps : List V) (h : Kp381.House) (i : Nat), vs = [.ref ph, .int (i : Int)] ∧ At n X h ph dx ao so lo po vas vlog vps H ∧ RetI (entryOut h i) H Q
theorem ok_tell_entry (D : Ds n K mg) : FnOk P w K mg base CX0 1 n.f_tell_entry n.fd_tell_entry P_tell_entry (sp_tell_entry n) := by
  refine D.d_tell_entry.F.ok sc_tell_entry (fun vs H Q E h => ?_) (fun cdv A outer sh H vs Q E hr h => ?_)
  · obtain ⟨X, ph, dx, ao, so, lo, po, vas, vlog, vps, h, i, rfl, _⟩ := h
    rfl
  · obtain ⟨X, ph, dx, ao, so, lo, po, vas, vlog, vps, h, i, rfl, a, kQ⟩ := h
    refine ⟨_, (pss_cons (ps_if (pt_cmpR op_ge (pv 1) (pe_callB call_len_seq (by rfl) D.n_len PySem.boot_len (pa_cons (pe_fld (pv 0) rfl) pa_nil)) (nomark _))
        (pss_one (ps_ret (pe_lst (pa_cons (pe_const rfl D.g_NO_SUCH) pa_nil))))
        pss_nil)
      (pss_cons (ps_set (i := 2) sc_tell_entry.nd rfl (Or.inl rfl) (pe_ix ix_list (pe_fld (pv 0) rfl) (pv 1) (fun _ _ => rfl)))
      (pss_one (ps_ret (pe_op op_cat (pe_op op_cat (pe_lst (pa_cons (pe_fld (pv 2) rfl) (pa_cons (pe_fld (pv 2) rfl) pa_nil))) (pe_callTy call_list_of (by rfl) D.n_list (by decide +kernel) (pa_cons (pe_fld (pv 2) rfl) pa_nil))) (pe_callTy call_list_of (by rfl) D.n_list (by decide +kernel) (pa_cons (pe_fld (pv 2) rfl) pa_nil))))))), ?_⟩
    unfold entryOut at kQ
    refine ⟨_, rfl, _, rfl, ph, n.C_House, dx, _, _, rfl, a.hp, D.c_House.cl, D.House_log, houseF_log, lo, vlog, rfl, Or.inl (sqL a.hl), _, _, rfl, rfl, _, rfl, ?_⟩
    have el := a.el.1
    by_cases c : i < h.log.length
    · refine if_f (decide_eq_false (by omega)) ?_
      rw [List.getElem?_eq_getElem c] at kQ
      obtain ⟨ve, hve, hent⟩ := a.el.2 i _ (List.getElem?_eq_getElem c)
      obtain ⟨pe, de, pb, pf, pp, rfl, h1, h2, h3, h4⟩ := hent
      have g1 := (er_some h1).1
      have g2 := (er_some h2).1
      have g3 := (er_some h3).1
      refine ⟨_, rfl, ph, n.C_House, dx, _, _, rfl, a.hp, D.c_House.cl, D.House_log, houseF_log, _, rfl, lo, _, _, _, rfl, rfl, sqL a.hl, atI_nat hve, ?_⟩
      refine ⟨_, rfl, pe, n.C_Entry, de, _, _, rfl, g1, D.c_Entry.cl, D.Entry_number, entF_number, _, rfl, pe, n.C_Entry, de, _, _, rfl, g1, D.c_Entry.cl, D.Entry_steps, entF_steps, by show 2 ≤ sizeLine; decide, fun r1 hr1 => ?_⟩
      have x1 := Evl.Ex.new (o := .lst [.int (h.log[i].a : Int), .int (h.log[i].k : Int)]) hr1
      refine ⟨_, rfl, pe, n.C_Entry, de, _, _, rfl, x1 _ _ g1, D.c_Entry.cl, D.Entry_before, entF_before, pb, _, rfl, Or.inr (sqT (x1 _ _ g2)), fun r2 hr2 => ?_⟩
      have x2 := Evl.Ex.new (o := .lst (standV h.log[i].ahead)) hr2
      refine ⟨r1, r2, _, _, rfl, rfl, x2 _ _ upd_same, upd_same, by show 5 ≤ sizeLine; decide, fun r3 hr3 => ?_⟩
      have x3 := Evl.Ex.new (o := .lst ([.int (h.log[i].a : Int), .int (h.log[i].k : Int)] ++ standV h.log[i].ahead)) hr3
      have x13 := (x1.trans x2).trans x3
      refine ⟨_, rfl, pe, n.C_Entry, de, _, _, rfl, x13 _ _ g1, D.c_Entry.cl, D.Entry_behind, entF_behind, pf, _, rfl, Or.inr (sqT (x13 _ _ g3)), fun r4 hr4 => ?_⟩
      have x4 := Evl.Ex.new (o := .lst (standV h.log[i].behind_)) hr4
      refine ⟨r3, r4, _, _, rfl, rfl, x4 _ _ upd_same, upd_same, by show 8 ≤ sizeLine; decide, fun r5 hr5 => ?_⟩
      exact (kQ.mono (x13.trans x4)).new hr5
    · refine if_t (decide_eq_true (by omega)) ?_
      rw [List.getElem?_eq_none (by omega)] at kQ
      exact ret_one kQ
/-! ### tell_became -/
def becameOut (h : Kp381.House) : List Int := [((h.log.filter fun e => e.ahead.s != e.behind_.s).length : Int)]
def sp_tell_became (n : Nm) : Sp := fun vs H Q _ => ∃ (X : List Addr) (ph dx ao so lo po : Addr) (vas vlog vps : List V) (h : Kp381.House), vs = [.ref ph] ∧ At n X h ph dx ao so lo po vas vlog vps H ∧ RetI (becameOut h) H Q
theorem ok_tell_became (D : Ds n K mg) : FnOk P w K mg base CX0 1 n.f_tell_became n.fd_tell_became P_tell_became (sp_tell_became n) := by
  refine D.d_tell_became.F.ok sc_tell_became (fun vs H Q E h => ?_) (fun cdv A outer sh H vs Q E hr h => ?_)
  · obtain ⟨X, ph, dx, ao, so, lo, po, vas, vlog, vps, h, rfl, _⟩ := h
    rfl
  · obtain ⟨X, ph, dx, ao, so, lo, po, vas, vlog, vps, h, rfl, a, kQ⟩ := h
    refine ⟨_, (pss_one (ps_ret (pe_lst (pa_cons (pe_callB call_len_seq (by rfl) D.n_len PySem.boot_len (pa_cons (pe_lc (own := [("entry", 1)]) (g := gName 1)  rfl sc_tell_became.nd (pi_list (pe_fld (pv 0) rfl)) (blkOk_by (own := [("entry", 1)]) (N := N_tell_became) (sc := defScope s_tell_became) (by decide +kernel)) (fun _ _ _ _ _ => (pg_name (i := 1) sc_tell_became.nd rfl (Or.inl rfl))) (fun _ _ _ _ _ => (pts_one (pt_cmpR op_ne (pe_ix (r := rIxT K) ix_tup (pe_fldK (K := K) rfl (pv 1) rfl) pe_int (fun _ _ => rfl)) (pe_ix (r := rIxT K) ix_tup (pe_fldK (K := K) rfl (pv 1) rfl) pe_int (fun _ _ => rfl)) (nomark _)))) (fun _ _ _ _ _ => (pv 1))) pa_nil)) pa_nil)))), ?_⟩
    have ll := a.ll
    refine ⟨_, rfl, ph, n.C_House, dx, _, _, rfl, a.hp, D.c_House.cl, D.House_log, houseF_log, lo, rfl, ⟨vlog, sqL a.hl⟩, fun Dl hD => ?_⟩
    refine lc_list (K := K) (a := lo) (xs := vlog) (fun j H1 => Ex H H1 ∧ ∃ acc, H1 Dl = some (.lst acc) ∧ acc.length = ((h.log.take j).filter fun e => e.ahead.s != e.behind_.s).length) ⟨Evl.Ex.new hD, [], upd_same, rfl⟩ (fun j H1 _ hh => sqL (hh.1 _ _ a.hl)) ?_ ?_
    · rintro j u H1 hj ⟨e1, acc, h1, h2⟩
      obtain ⟨e, he, hent⟩ := a.el.back hj
      have jl := (List.getElem?_eq_some_iff.mp he).1
      obtain ⟨pe, de, pb, pf, pp, rfl, g1, g2, g3, g4⟩ := hent
      have q1 := e1 _ _ (er_some g1).1
      have q2 := e1 _ _ (er_some g2).1
      have q3 := e1 _ _ (er_some g3).1
      refine ⟨rfl, ?_⟩
      refine ⟨_, rfl, pe, n.C_Entry, de, _, _, rfl, q1, D.c_Entry.cl, D.Entry_before, entF_before, pb, _, _, _, rfl, rfl, sqT q2, rfl, _, rfl, pe, n.C_Entry, de, _, _, rfl, q1, D.c_Entry.cl, D.Entry_behind, entF_behind, pf, _, _, _, rfl, rfl, sqT q3, rfl, rfl, _, rfl, ?_⟩
      have et : (h.log.take (j + 1)).filter (fun e => e.ahead.s != e.behind_.s) = (h.log.take j).filter (fun e => e.ahead.s != e.behind_.s) ++ (if (e.ahead.s != e.behind_.s) = true then [e] else []) := by
        rw [List.take_add_one, he, List.filter_append]
        show _ ++ List.filter _ [e] = _
        rw [List.filter_cons]
        rfl
      have eb : (!decide (V.int (e.ahead.s : Int) = V.int (e.behind_.s : Int))) = (e.ahead.s != e.behind_.s) := by
        rw [int_eq (z := (e.behind_.s : Int)) (b := e.behind_.s) rfl]
        by_cases c : e.ahead.s = e.behind_.s <;> simp [c]
      refine if_c (fun c => ?_) (fun c => ?_)
      · have c' : (e.ahead.s != e.behind_.s) = true := by rw [← eb]; exact c
        have al : acc.length ≤ j := by
          rw [h2]
          have := List.length_filter_le (fun e : Kp381.Entry => e.ahead.s != e.behind_.s) (h.log.take j)
          rw [List.length_take] at this
          omega
        refine ⟨_, rfl, acc, h1, small1000 (by omega), Evl.Ex.mut e1 hD, acc ++ [.ref pe], upd_same, ?_⟩
        rw [et, if_pos c', List.length_append, List.length_append, h2]
        rfl
      · have c' : ¬ (e.ahead.s != e.behind_.s) = true := by
          rw [← eb]
          intro z
          rw [show (!decide (V.int (e.ahead.s : Int) = V.int (e.behind_.s : Int))) = false from c] at z
          cases z
        refine ⟨e1, acc, h1, ?_⟩
        rw [et, if_neg c', List.append_nil]
        exact h2
    · rintro H1 ⟨e1, acc, h1, h2⟩
      rw [a.el.1, List.take_length] at h2
      refine ⟨Dl, acc, rfl, Or.inl (sqL h1), by show 1 ≤ sizeLine; decide, fun r hr9 => ?_⟩
      rw [h2]
      exact (kQ.mono e1).new hr9
/-! ### tell_still -/
def stillOut (h : Kp381.House) (k : Nat) : List Int := if 4 < k then [-22] else [0, ((Kp379.selves h.world h.now k).getD h.now.s (0, 1)).1, ((Kp379.selves h.world h.now k).getD h.now.s (0, 1)).2]
def sp_tell_still (n : Nm) : Sp := fun vs H Q _ => ∃ (X : List Addr) (ph dx ao so lo po : Addr) (vas vlog vps : List V) (h : Kp381.House) (k : Nat), vs = [.ref ph, .int (k : Int)] ∧ At n X h ph dx ao so lo po vas vlog vps H ∧ RetI (stillOut h k) H Q
theorem ok_tell_still (D : Ds n K mg) : FnOk P w K mg base CX0 11 n.f_tell_still n.fd_tell_still P_tell_still (sp_tell_still n) := by
  have G_likely_table := ok_likely_table (P := P) (w := w) (base := base) D
  refine D.d_tell_still.F.ok sc_tell_still (fun vs H Q E h => ?_) (fun cdv A outer sh H vs Q E hr h => ?_)
  · obtain ⟨X, ph, dx, ao, so, lo, po, vas, vlog, vps, h, k, rfl, _⟩ := h
    rfl
  · obtain ⟨X, ph, dx, ao, so, lo, po, vas, vlog, vps, h, k, rfl, a, kQ⟩ := h
    refine ⟨_, (pss_cons (ps_if (pt_cmpR op_gt (pv 1) (pe_const rfl D.g_MOST_STEPS) (nomark _))
        (pss_one (ps_ret (pe_lst (pa_cons (pe_const rfl D.g_NOT_AS_TOLD) pa_nil))))
        pss_nil)
      (pss_one (ps_ret (pe_op op_cat (pe_lst (pa_cons pe_int pa_nil)) (pe_callTy call_list_of (by rfl) D.n_list (by decide +kernel) (pa_cons (pe_ix ix_list (pe_dget (hu_of hr) (pe_call G_likely_table (hr.mono (by decide)) rfl D.d_likely_table.g D.d_likely_table.F.kp D.d_likely_table.b .nil pass0 (pa_cons (pv 0) (pa_cons (pv 1) pa_nil))) (pe_fld (pv 0) rfl) (fun _ _ => rfl)) (pe_ix ix_tup (pe_fld (pv 0) rfl) pe_int (fun _ _ => rfl)) (fun _ _ => rfl)) pa_nil)))))), ?_⟩
    unfold stillOut at kQ
    refine Evl.q_when (et_gt (m := 4) (x := k) (Evl.ev_var rfl)) (fun c H1 e1 => ?_) (fun c H1 e1 => ?_)
    · refine ret_one ?_
      rw [if_pos (of_decide_eq_true c)] at kQ
      exact kQ.mono e1
    · have hk := of_decide_eq_false c
      rw [if_neg hk] at kQ
      refine ⟨by show 1 ≤ sizeLine; decide, fun p1 h1 => ?_⟩
      have e2 := Evl.Ex.new (o := .lst [.int 0]) h1
      have a2 := (a.mono e1).mono e2
      refine ⟨_, rfl, _, rfl, _, h.world, k, rfl, a2.read, a.ww, by omega, fun vt H3 e3 hT => ?_⟩
      have a3 := a2.mono e3
      obtain ⟨so', h0, hso⟩ := a3.stand
      cases h0
      obtain ⟨pt, kvs, rfl, hpt, hrow⟩ := hT
      obtain ⟨ul, hul, pl, vls, rfl, hpl, hEl⟩ := hrow _ a.os
      have rl := (tabOk_like a.ww k _ a.os).1
      have hget : (like h.world k h.now)[h.now.s]? = some ((Kp379.selves h.world h.now k).getD h.now.s (0, 1)) := by
        rw [still_like a.ww a.os a.os.2, List.getD_eq_getElem?_getD, List.getElem?_eq_getElem (by rw [rl]; exact a.os.2)]
        rfl
      obtain ⟨vf, hvf, pf, rfl, hpf⟩ := hEl.2 _ _ hget
      refine ⟨_, rfl, ph, n.C_House, dx, _, _, rfl, a3.hp, D.c_House.cl, D.House_stand, houseF_stand, pt, _, rfl, by rw [← hul]; exact DGet.t hpt hso, _, rfl, ph, n.C_House, dx, _, _, rfl, a3.hp, D.c_House.cl, D.House_stand, houseF_stand, so, _, _, _, rfl, rfl, sqT hso, rfl, pl, _, _, _, rfl, rfl, sqL hpl, atI_nat hvf, pf, _, rfl, Or.inr (sqT hpf), fun p2 h2 => ?_⟩
      have e4 := Evl.Ex.new (o := .lst [V.int ((Kp379.selves h.world h.now k).getD h.now.s (0, 1)).1, V.int ((Kp379.selves h.world h.now k).getD h.now.s (0, 1)).2]) h2
      refine ⟨p1, p2, _, _, rfl, rfl, e4 _ _ (e3 _ _ upd_same), upd_same, by show 3 ≤ sizeLine; decide, fun p3 h3 => ?_⟩
      exact (kQ.mono (((e1.trans e2).trans e3).trans e4)).new h3
end
end CI
/-! What was paid, by each self's lights. -/
namespace CI
open PySem PySem.Spec PyProof.Rows L2
open Evl (Ex fresh_back Ev EvT EvA EvL)
open Kp379 (Stand)
/-- the scope of a comprehension that is assigned -/
def lcScope (st : Stmt) (d : Scope) : Scope := match st with
  | .Assign _ (.ListComp _ _ sc _) _ => sc
  | _ => d
abbrev sc_paid : Scope := lcScope ((defBody s_tell_paid).getD 0 (.Pass ⟨0, 0, 0, 0⟩)) (defScope s_tell_paid)
theorem pi_listK {X : Cx} {tg : Expr} {K : PySem.W.Frag} {l : Expr} {tl : TE} (hK : X.K = K) (hl : PE X l tl) : PI X tg l (iList K tl) := by
  subst hK
  exact pi_list hl
theorem foldl_sum : ∀ (l : List Int) (z : Int), l.foldl (fun (a b : Int) => a + b) z = z + l.sum
  | [], z => by simp
  | x :: r, z => by
    rw [List.foldl_cons, foldl_sum r, List.sum_cons]
    omega
theorem paid_is (h : Kp381.House) (u : Nat) : Kp381.paid h u = (h.log.map fun e => e.pays.getD u 0).sum := by
  unfold Kp381.paid
  rw [foldl_sum]
  omega
def paidOut (h : Kp381.House) : List Int := (h.log.length : Int) :: (List.range h.world.v).map fun u => Kp381.paid h u
section
variable {P : Program} {w : World} {K : PySem.W.Frag} {mg : Str → Option Value} {base : Heap} {n : Nm}
def sp_tell_paid (n : Nm) : Sp := fun vs H Q _ => ∃ (X : List Addr) (ph dx ao so lo po : Addr) (vas vlog vps : List V) (h : Kp381.House), vs = [.ref ph] ∧ At n X h ph dx ao so lo po vas vlog vps H ∧ RetI (paidOut h) H Q
theorem ok_tell_paid (D : Ds n K mg) : FnOk P w K mg base CX0 1 n.f_tell_paid n.fd_tell_paid P_tell_paid (sp_tell_paid n) := by
  refine D.d_tell_paid.F.ok sc_tell_paid (fun vs H Q E h => ?_) (fun cdv A outer sh H vs Q E hr h => ?_)
  · obtain ⟨X, ph, dx, ao, so, lo, po, vas, vlog, vps, h, rfl, _⟩ := h
    rfl
  · obtain ⟨X, ph, dx, ao, so, lo, po, vas, vlog, vps, h, rfl, a, kQ⟩ := h
    refine ⟨_, (pss_cons (ps_setLc (i := 1) (own := [("lights", 2)]) (g := gName 2) (tt := tYes) rfl sc_tell_paid.nd rfl rfl (sw_true rfl rfl rfl (by decide +kernel)) (pi_range1 (by rfl) D.n_range (pa_cons (pe_fld (pv 0) rfl) pa_nil)) (blkOk_by (own := [("lights", 2)]) (N := N_tell_paid) (sc := defScope s_tell_paid) (by decide +kernel)) (fun _ _ _ _ _ => (pg_name (i := 2) sc_tell_paid.nd rfl (Or.inr rfl))) (fun _ _ _ _ _ => pts_nil) (fun _ _ _ _ _ => (pe_callB (r := rSum K) (cr_sum rfl) (by rfl) D.n_sum (by decide +kernel) (pa_cons (pe_lc (own := [("entry", 3)]) (g := gName 3) (tt := tYes) rfl sc_tell_paid.nd (pi_listK (K := K) rfl (pe_fldK (K := K) rfl (pv 0) rfl)) (blkOk_by (own := [("entry", 3)]) (N := N_tell_paid) (sc := relS sc_paid (defScope s_tell_paid)) (by decide +kernel)) (fun _ _ _ _ _ => (pg_name (i := 3) sc_tell_paid.nd rfl (Or.inl rfl))) (fun _ _ _ _ _ => pts_nil) (fun _ _ _ _ _ => (pe_ix (r := rIxL K) ix_list (pe_fldK (K := K) rfl (pv 3) rfl) (pv 2) (fun _ _ => rfl)))) pa_nil))))
      (pss_one (ps_ret (pe_op op_cat (pe_lst (pa_cons (pe_callB call_len_seq (by rfl) D.n_len PySem.boot_len (pa_cons (pe_fld (pv 0) rfl) pa_nil)) pa_nil)) (pv 1))))), ?_⟩
    have v3 := a.ww.v3
    have ll := a.ll
    have nn : ((h.world.v : Int)).toNat = h.world.v := by omega
    refine ⟨_, rfl, ph, n.C_House, dx, _, _, rfl, a.hp, D.c_House.cl, D.House_selves, houseF_selves, (h.world.v : Int), rfl, by omega, by omega, fun Dl hD => ?_⟩
    refine lc_range (lo := 0) (n := ((h.world.v : Int)).toNat) (fun i H1 => Ex H H1 ∧ H1 Dl = some (.lst (((List.range i).map fun u => Kp381.paid h u).map V.int))) ⟨Evl.Ex.new hD, upd_same⟩ ?_ ?_
    · rintro i H1 hi ⟨e1, h1⟩
      have ei : (0 : Int) + (i : Int) = (i : Int) := by omega
      refine ⟨rfl, ?_⟩
      refine ⟨_, rfl, ph, n.C_House, dx, _, _, rfl, e1 _ _ a.hp, D.c_House.cl, D.House_log, houseF_log, lo, rfl, ⟨vlog, sqL (e1 _ _ a.hl)⟩, fun D2 hD2 => ?_⟩
      refine lc_list (K := K) (a := lo) (xs := vlog) (fun j H2 => Ex H1 H2 ∧ H2 D2 = some (.lst (((h.log.take j).map fun e => e.pays.getD i 0).map V.int))) ⟨Evl.Ex.new hD2, upd_same⟩ (fun j H2 _ hh => sqL (hh.1 _ _ (e1 _ _ a.hl))) ?_ ?_
      · rintro j u H2 hj ⟨e2, h2⟩
        obtain ⟨e, he, hent⟩ := a.el.back hj
        have jl := (List.getElem?_eq_some_iff.mp he).1
        have hpl := a.le e (List.mem_of_getElem? he)
        obtain ⟨pe, de, pb, pf, pp, rfl, g1, g2, g3, g4⟩ := hent
        have e12 := e1.trans e2
        have hget : (e.pays.map V.int)[i]? = some (V.int (e.pays.getD i 0)) := by
          rw [List.getElem?_map, List.getD_eq_getElem?_getD, List.getElem?_eq_getElem (by omega)]
          rfl
        refine ⟨rfl, ?_⟩
        refine ⟨_, rfl, pe, n.C_Entry, de, _, _, rfl, e12 _ _ (er_some g1).1, D.c_Entry.cl, D.Entry_pays, entF_pays, _, rfl, pp, _, _, _, rfl, rfl, sqL (e12 _ _ (er_some g4).1), at_of ei hget, _, h2, small1000 (by simp; omega), Evl.Ex.mut e2 hD2, ?_⟩
        rw [upd_same, List.take_add_one, he]
        show some (HO.lst (_ ++ [V.int (e.pays.getD i 0)])) = some (HO.lst (List.map V.int (List.map _ (List.take j h.log ++ [e]))))
        rw [List.map_append, List.map_append]
        rfl
      · rintro H2 ⟨e2, h2⟩
        rw [a.el.1, List.take_length] at h2
        refine ⟨D2, _, rfl, sqL h2, _, e2 _ _ h1, small1000 (by simp; omega), Evl.Ex.mut (e1.trans e2) hD, ?_⟩
        rw [upd_same, range_map_succ, List.map_append, paid_is]
        rfl
    · rintro H1 ⟨e1, h1⟩
      rw [nn] at h1
      refine ⟨_, rfl, ph, n.C_House, dx, _, _, rfl, e1 _ _ a.hp, D.c_House.cl, D.House_log, houseF_log, lo, vlog, rfl, Or.inl (sqL (e1 _ _ a.hl)), by show 1 ≤ sizeLine; decide, fun r1 hr1 => ?_⟩
      have x1 := Evl.Ex.new (o := .lst [.int (vlog.length : Int)]) hr1
      refine ⟨_, rfl, r1, Dl, _, _, rfl, rfl, upd_same, x1 _ _ h1, ?_, fun r2 hr2 => ?_⟩
      · have : (1000 : Nat) ≤ sizeLine := by decide
        simp
        omega
      · have el : (vlog.length : Int) = (h.log.length : Int) := by rw [a.el.1]
        have e9 : [V.int (vlog.length : Int)] ++ (((List.range h.world.v).map fun u => Kp381.paid h u).map V.int) = (paidOut h).map V.int := by
          rw [el]
          rfl
        rw [e9]
        exact (kQ.mono (e1.trans x1)).new hr2
end
end CI
/-! Promises made, taken back, told. -/
namespace CI
open PySem PySem.Spec PyProof.Rows L2
open Evl (Ex fresh_back Ev EvT EvA EvL)
open Kp379 (Stand)
theorem units65 {k : Nat} {A : Around} (r : Room k A) : A.units + 65 < cLine := by
  have := r.un
  omega
/-! ### promises compared -/
def promN (q : Kp381.Promise) : List Int := [(q.kind : Int), (q.u : Int), (q.s : Int), (q.p : Int), (q.k : Int), q.x]
theorem promN_map (q : Kp381.Promise) : (promN q).map V.int = promV q := rfl
theorem promN_inj {a b : Kp381.Promise} (h : promN a = promN b) : a = b := by
  obtain ⟨a1, a2, a3, a4, a5, a6⟩ := a
  obtain ⟨b1, b2, b3, b4, b5, b6⟩ := b
  simp only [promN, List.cons.injEq, and_true] at h
  obtain ⟨h1, h2, h3, h4, h5, h6⟩ := h
  have e1 := Int.ofNat_inj.mp h1
  have e2 := Int.ofNat_inj.mp h2
  have e3 := Int.ofNat_inj.mp h3
  have e4 := Int.ofNat_inj.mp h4
  have e5 := Int.ofNat_inj.mp h5
  subst e1 e2 e3 e4 e5 h6
  rfl
def promD (q : Kp381.Promise) : PyData := .tuple ((promN q).map PyData.int)
theorem depth_prom (q : Kp381.Promise) : (promD q).depth ≤ 2 := by
  have := depthAll_ints (promN q)
  unfold promD
  simp only [PyData.depth]
  omega
theorem canLay_prom (q : Kp381.Promise) : (promD q).canLay0 = true := by
  unfold promD
  simpa only [PyData.canLay0] using canLay_ints (promN q)
theorem shaped_prom (q : Kp381.Promise) : SeqAt.shaped (promD q) = true := by
  unfold SeqAt.shaped
  rw [Bool.and_eq_true]
  refine ⟨canLay_prom q, decide_eq_true ?_⟩
  have := depth_prom q
  omega
theorem canLay_proms : ∀ ps : List Kp381.Promise, PyData.canLayAll0 (ps.map promD) = true
  | [] => rfl
  | q :: r => by
    show PyData.canLayAll0 (promD q :: r.map promD) = true
    unfold PyData.canLayAll0
    rw [canLay_proms r, canLay_prom q]
    rfl
theorem depthAll_proms : ∀ ps : List Kp381.Promise, PyData.depthAll (ps.map promD) ≤ 2
  | [] => by show PyData.depthAll [] ≤ 2; simp [PyData.depthAll]
  | q :: r => by
    have ih := depthAll_proms r
    have h1 := depth_prom q
    show PyData.depthAll (promD q :: r.map promD) ≤ 2
    simp only [PyData.depthAll]
    omega
theorem shaped_proms (ps : List Kp381.Promise) : SeqAt.shaped (.list (ps.map promD)) = true := by
  unfold SeqAt.shaped
  have h1 := canLay_proms ps
  have h2 := depthAll_proms ps
  rw [Bool.and_eq_true]
  refine ⟨?_, decide_eq_true ?_⟩
  · simpa only [PyData.canLay0] using h1
  · simp only [PyData.depth]
    omega
theorem eqv_prom (a b : Kp381.Promise) : PyData.eqv (promD a) (promD b) = decide (a = b) := by
  unfold promD
  simp only [PyData.eqv]
  rw [eqvAll_ints]
  by_cases c : a = b
  · rw [c]
    simp
  · rw [decide_eq_false c, decide_eq_false (fun z => c (promN_inj z))]
theorem any_prom (q : Kp381.Promise) : ∀ ps : List Kp381.Promise, ((ps.map promD).any fun z => PyData.eqv z (promD q)) = ps.contains q
  | [] => rfl
  | a :: r => by
    rw [List.map_cons, List.any_cons, any_prom q r, eqv_prom, List.contains_cons]
    congr 1
    by_cases c : a = q
    · rw [c]
      simp
    · rw [decide_eq_false c]
      symm
      exact beq_false_of_ne fun z => c z.symm
theorem dp_proms {K : PySem.W.Frag} {H : Hp} : ∀ (ps : List Kp381.Promise) (vs : List V), Each IsProm ps vs H → DpAll K H vs (ps.map promD)
  | [], [], _ => .nil
  | [], v :: vs, h => by have := h.1; simp at this
  | q :: r, [], h => by have := h.1; simp at this
  | q :: r, v :: vs, h => by
    obtain ⟨u, h1, p, rfl, hp⟩ := h.2 0 q rfl
    have e : v = .ref p := by simpa using h1
    subst e
    refine .cons (.tup (xs := (promN q).map V.int) (sqT hp) (dp_ints _)) (dp_proms r vs ⟨by have := h.1; simpa using this, fun i a ha => ?_⟩)
    obtain ⟨w, h2, h3⟩ := h.2 (i + 1) a ha
    exact ⟨w, h2, h3⟩
/-! ### a promise more -/
def promiseTo (h : Kp381.House) (q : Kp381.Promise) : Kp381.State × List Int := if h.promises.contains q = true then (some h, [-17]) else if (!Kp381.kept h.world q) = true then (some h, [-30]) else if h.promises.length = 4 then (some h, [-28]) else (some { h with promises := h.promises ++ [q] }, [(h.promises.length : Int)])
section
variable {P : Program} {w : World} {K : PySem.W.Frag} {mg : Str → Option Value} {base : Heap} {n : Nm}
def sp_put_promise (n : Nm) : Sp := fun vs H Q _ => ∃ (X : List Addr) (ph : Addr) (S : List Addr) (h : Kp381.House) (q : Kp381.Promise) (vq : V), vs = [.ref ph, vq] ∧ IsProm q vq H ∧ WfP h.world q ∧ StAt n X (some h) ph S H ∧ Told n X (promiseTo h q).1 (promiseTo h q).2 ph S H Q
theorem ok_put_promise (D : Ds n K mg) : FnOk P w K mg base CX0 11 n.f_put_promise n.fd_put_promise P_put_promise (sp_put_promise n) := by
  have G_would_be_kept := ok_would_be_kept (P := P) (w := w) (base := base) D
  refine D.d_put_promise.F.ok sc_put_promise (fun vs H Q E h => ?_) (fun cdv A outer sh H vs Q E hr h => ?_)
  · obtain ⟨X, ph, S, h, q, vq, rfl, _⟩ := h
    rfl
  · obtain ⟨X, ph, S, h, q, vq, rfl, hq, wq, hS, kQ⟩ := h
    refine ⟨_, (pss_cons (ps_if (pt_cmpR (op_inD (units65 hr)) (pv 1) (pe_fld (pv 0) rfl) (by with_unfolding_all rfl))
        (pss_one (ps_ret (pe_lst (pa_cons (pe_const rfl D.g_ALREADY_PROMISED) pa_nil))))
        pss_nil)
      (pss_cons (ps_if (pt_not (pt_val (pe_call G_would_be_kept (hr.mono (by decide)) rfl D.d_would_be_kept.g D.d_would_be_kept.F.kp D.d_would_be_kept.b .nil pass0 (pa_cons (pv 0) (pa_cons (pv 1) pa_nil)))))
        (pss_one (ps_ret (pe_lst (pa_cons (pe_const rfl D.g_NOT_KEPT) pa_nil))))
        pss_nil)
      (pss_cons (ps_if (pt_cmpR op_eq (pe_callB call_len_seq (by rfl) D.n_len PySem.boot_len (pa_cons (pe_fld (pv 0) rfl) pa_nil)) (pe_const rfl D.g_MOST_PROMISES) (nomark _))
        (pss_one (ps_ret (pe_lst (pa_cons (pe_const rfl D.g_FULL) pa_nil))))
        pss_nil)
      (pss_cons (ps_expr (pe_bm PySem.F.plainAttrs_list PySem.F.slot_list_append PySem.F.type_list_append mt_append (pe_fld (pv 0) rfl) (pa_cons (pv 1) pa_nil)))
      (pss_one (ps_ret (pe_lst (pa_cons (pe_op op_sub (pe_callB call_len_seq (by rfl) D.n_len PySem.boot_len (pa_cons (pe_fld (pv 0) rfl) pa_nil)) pe_int) pa_nil)))))))), ?_⟩
    have hS' := hS
    obtain ⟨off, dx, ao, so, lo, po, vas, vlog, vps, rfl, a⟩ := hS'
    obtain ⟨pq, rfl, hpq⟩ := hq
    have lp := a.lp
    unfold promiseTo at kQ
    refine ⟨_, rfl, _, rfl, ph, n.C_House, dx, _, _, rfl, a.hp, D.c_House.cl, D.House_promises, houseF_promises, promD q, h.promises.map promD, .tup (xs := (promN q).map V.int) (sqT hpq) (dp_ints _), .lst (sqL a.hq) (dp_proms _ _ a.keeps), shaped_prom q, shaped_proms _, _, rfl, ?_⟩
    rw [any_prom]
    refine if_c (fun c => ?_) (fun c => ?_)
    · refine ret_one ?_
      rw [if_pos c] at kQ
      exact kQ.pure hS
    · rw [if_neg (by rw [c]; decide)] at kQ
      refine Evl.q_when (Evl.et_not (Evl.et_B (Evl.ev_call (z := .bl (Kp381.kept h.world q)) (Evl.ea_cons (Evl.ev_var rfl) (Evl.ea_cons (Evl.ev_var rfl) Evl.ea_nil)) fun H2 e2 Q' k _ => ⟨_, _, h.world, q, rfl, (a.mono e2).read, ⟨pq, rfl, e2 _ _ hpq⟩, a.ww, wq, fun u H3 e3 hu => by rw [hu]; exact k H3 e3⟩))) (fun c2 H1 e1 => ?_) (fun c2 H1 e1 => ?_)
      · refine ret_one ?_
        rw [if_pos c2] at kQ
        exact (kQ.pure hS).mono e1
      · rw [if_neg (by rw [c2]; decide)] at kQ
        have a1 := a.mono e1
        refine ⟨_, rfl, ph, n.C_House, dx, _, _, rfl, a1.hp, D.c_House.cl, D.House_promises, houseF_promises, po, vps, rfl, Or.inl (sqL a1.hq), rfl, _, rfl, ?_⟩
        have el : decide (V.int ((vps.length : Nat) : Int) = V.int 4) = decide (h.promises.length = 4) := by
          rw [int_eq (z := 4) (b := 4) rfl, a.eq.1]
        refine if_c (fun c3 => ?_) (fun c3 => ?_)
        · refine ret_one ?_
          rw [el] at c3
          rw [if_pos (of_decide_eq_true c3)] at kQ
          exact (kQ.pure hS).mono e1
        · rw [el] at c3
          have n4 := of_decide_eq_false c3
          rw [if_neg n4] at kQ
          refine ⟨_, rfl, ph, n.C_House, dx, _, _, rfl, a1.hp, D.c_House.cl, D.House_promises, houseF_promises, .inl ⟨rfl, _, sqL a1.hq⟩, _, rfl, po, vps, _, rfl, rfl, a1.hq, small1000 (by rw [a.eq.1]; omega), ?_⟩
          have npq := a1.tup (off.mono e1) (e1 _ _ hpq)
          have a2 := a1.setProm (ps := h.promises ++ [q]) (vs := vps ++ [.ref pq]) (Each.snoc a1.eq ⟨pq, rfl, er_of (e1 _ _ hpq) npq⟩) (by rw [List.length_append]; simp; omega) (fun b hb => by
            rcases List.mem_append.mp hb with z | z
            · exact a.wp b z
            · have : b = q := by simpa using z
              rw [this]
              exact wq)
          refine ⟨_, rfl, ph, n.C_House, dx, _, _, rfl, a2.hp, D.c_House.cl, D.House_promises, houseF_promises, po, _, rfl, Or.inl (sqL a2.hq), _, _, rfl, rfl, by show 1 ≤ sizeLine; decide, fun r hr9 => ?_⟩
          have kp : ∀ b o, H b = some o → b ∉ [ph, ao, lo, po] → (upd H1 po (.lst (vps ++ [.ref pq]))) b = some o := fun b o hb nb => by
            rw [upd_ne (fun z => nb (by rw [z]; simp))]
            exact e1 _ _ hb
          have ez : (((vps ++ [V.ref pq]).length : Nat) : Int) - 1 = (h.promises.length : Int) := by
            rw [List.length_append, a.eq.1]
            simp
          refine Told.fin off kp a2 (Evl.Ex.new hr9) hr9 ?_ kQ
          rw [upd_same]
          show some (HO.lst [V.int ((((vps ++ [V.ref pq]).length : Nat) : Int) - 1)]) = _
          rw [ez]
          rfl
/-! ### promise_never -/
def neverTo (h : Kp381.House) (s k : Nat) : Kp381.State × List Int := if (!Kp379.isSelf h.world s) = true then (some h, [-2]) else if (!(decide (1 ≤ k) && decide (k ≤ 4))) = true then (some h, [-22]) else promiseTo h ⟨0, s, 0, 0, k, 0⟩
def sp_promise_never (n : Nm) : Sp := fun vs H Q _ => ∃ (X : List Addr) (ph : Addr) (S : List Addr) (h : Kp381.House) (s k : Nat), vs = [.ref ph, .int (s : Int), .int (k : Int)] ∧ StAt n X (some h) ph S H ∧ Told n X (neverTo h s k).1 (neverTo h s k).2 ph S H Q
theorem ok_promise_never (D : Ds n K mg) : FnOk P w K mg base CX0 12 n.f_promise_never n.fd_promise_never P_promise_never (sp_promise_never n) := by
  have G_has_self := ok_has_self (P := P) (w := w) (base := base) D
  have G_may_go := ok_may_go (P := P) (w := w) (base := base) D
  have G_put_promise := ok_put_promise (P := P) (w := w) (base := base) D
  refine D.d_promise_never.F.ok sc_promise_never (fun vs H Q E h => ?_) (fun cdv A outer sh H vs Q E hr h => ?_)
  · obtain ⟨X, ph, S, h, s, k, rfl, _⟩ := h
    rfl
  · obtain ⟨X, ph, S, h, s, k, rfl, hS, kQ⟩ := h
    refine ⟨_, (pss_cons (ps_if (pt_not (pt_val (pe_call G_has_self (hr.mono (by decide)) rfl D.d_has_self.g D.d_has_self.F.kp D.d_has_self.b .nil pass0 (pa_cons (pv 0) (pa_cons (pv 1) pa_nil)))))
        (pss_one (ps_ret (pe_lst (pa_cons (pe_const rfl D.g_NO_SUCH) pa_nil))))
        pss_nil)
      (pss_cons (ps_if (pt_not (pt_val (pe_call G_may_go (hr.mono (by decide)) rfl D.d_may_go.g D.d_may_go.F.kp D.d_may_go.b .nil pass0 (pa_cons (pv 2) pa_nil))))
        (pss_one (ps_ret (pe_lst (pa_cons (pe_const rfl D.g_NOT_AS_TOLD) pa_nil))))
        pss_nil)
      (pss_one (ps_ret (pe_call G_put_promise (hr.mono (by decide)) rfl D.d_put_promise.g D.d_put_promise.F.kp D.d_put_promise.b .nil pass0 (pa_cons (pv 0) (pa_cons (pe_tup (pa_cons (pe_const rfl D.g_NEVER) (pa_cons pe_int (pa_cons (pv 1) (pa_cons pe_int (pa_cons (pv 2) (pa_cons pe_int pa_nil))))))) pa_nil))))))), ?_⟩
    have hS' := hS
    obtain ⟨off, dx, ao, so, lo, po, vas, vlog, vps, rfl, a⟩ := hS'
    unfold neverTo at kQ
    refine Evl.q_when (Evl.et_not (Evl.et_B (ev_has_self a.read rfl rfl))) (fun c H1 e1 => ?_) (fun c H1 e1 => ?_)
    · refine ret_one ?_
      rw [if_pos c] at kQ
      exact (kQ.pure hS).mono e1
    · rw [if_neg (by rw [c]; decide)] at kQ
      refine Evl.q_when (Evl.et_not (Evl.et_B (ev_may_go (n := n) (k := k) rfl))) (fun c2 H2 e2 => ?_) (fun c2 H2 e2 => ?_)
      · refine ret_one ?_
        rw [if_pos c2] at kQ
        exact (kQ.pure hS).mono (e1.trans e2)
      · rw [if_neg (by rw [c2]; decide)] at kQ
        have hs : s < h.world.v := by simpa [Kp379.isSelf] using c
        simp only [Bool.not_eq_false', Bool.and_eq_true, decide_eq_true_eq] at c2
        refine ⟨_, rfl, _, rfl, _, rfl, by show 6 ≤ sizeLine; decide, fun t ht => ?_⟩
        have e3 := Evl.Ex.new (o := .tup (promV ⟨0, s, 0, 0, k, 0⟩)) ht
        have e13 := (e1.trans e2).trans e3
        exact ⟨X, ph, _, h, ⟨0, s, 0, 0, k, 0⟩, _, rfl, ⟨t, rfl, upd_same⟩, ⟨show 0 ≤ 2 by decide, hs, by have := a.ww.n2; show 0 < h.world.n; omega, by have := a.ww.v1; show 0 < h.world.v; omega, c2.1, c2.2, show (-99 : Int) ≤ 0 by decide, show (0 : Int) ≤ 99 by decide⟩, hS.mono e13, kQ.grow e13⟩
/-! ### promise_stay -/
theorem et_sp {σ : L2.St} {H : Hp} {wd : Kp379.World} {v : V} {i j p j2 s : Nat} (hH : HRead n wd v H) (h1 : σ[i]? = some (some v)) (h2 : σ[j]? = some (some (.int (p : Int)))) (h3 : σ[j2]? = some (some (.int (s : Int)))) :
    EvT (tOr (tNot (tB (tCall (sp_has_self n) [] E0 (tCons (tVar i) (tCons (tVar j2) tNil))))) (tNot (tB (tCall (sp_has_place n) [] E0 (tCons (tVar i) (tCons (tVar j) tNil)))))) σ H (!Kp379.isSelf wd s || !Kp379.isPlace wd p) :=
  Evl.et_or (Evl.et_not (Evl.et_B (ev_has_self hH h1 h3))) fun _ => Evl.et_not (Evl.et_B (ev_has_place hH h1 h2))
def stayTo (h : Kp381.House) (s p k : Nat) : Kp381.State × List Int := if (!Kp379.isSelf h.world s || !Kp379.isPlace h.world p) = true then (some h, [-2]) else if (!(decide (1 ≤ k) && decide (k ≤ 4))) = true then (some h, [-22]) else promiseTo h ⟨1, s, p, 0, k, 0⟩
def sp_promise_stay (n : Nm) : Sp := fun vs H Q _ => ∃ (X : List Addr) (ph : Addr) (S : List Addr) (h : Kp381.House) (s p k : Nat), vs = [.ref ph, .int (s : Int), .int (p : Int), .int (k : Int)] ∧ StAt n X (some h) ph S H ∧ Told n X (stayTo h s p k).1 (stayTo h s p k).2 ph S H Q
theorem ok_promise_stay (D : Ds n K mg) : FnOk P w K mg base CX0 12 n.f_promise_stay n.fd_promise_stay P_promise_stay (sp_promise_stay n) := by
  have G_has_self := ok_has_self (P := P) (w := w) (base := base) D
  have G_has_place := ok_has_place (P := P) (w := w) (base := base) D
  have G_may_go := ok_may_go (P := P) (w := w) (base := base) D
  have G_put_promise := ok_put_promise (P := P) (w := w) (base := base) D
  refine D.d_promise_stay.F.ok sc_promise_stay (fun vs H Q E h => ?_) (fun cdv A outer sh H vs Q E hr h => ?_)
  · obtain ⟨X, ph, S, h, s, p, k, rfl, _⟩ := h
    rfl
  · obtain ⟨X, ph, S, h, s, p, k, rfl, hS, kQ⟩ := h
    refine ⟨_, (pss_cons (ps_if (PW.pt (pw_or (pt_not (pt_val (pe_call G_has_self (hr.mono (by decide)) rfl D.d_has_self.g D.d_has_self.F.kp D.d_has_self.b .nil pass0 (pa_cons (pv 0) (pa_cons (pv 1) pa_nil))))) (pw_or1 (pt_not (pt_val (pe_call G_has_place (hr.mono (by decide)) rfl D.d_has_place.g D.d_has_place.F.kp D.d_has_place.b .nil pass0 (pa_cons (pv 0) (pa_cons (pv 2) pa_nil))))))))
        (pss_one (ps_ret (pe_lst (pa_cons (pe_const rfl D.g_NO_SUCH) pa_nil))))
        pss_nil)
      (pss_cons (ps_if (pt_not (pt_val (pe_call G_may_go (hr.mono (by decide)) rfl D.d_may_go.g D.d_may_go.F.kp D.d_may_go.b .nil pass0 (pa_cons (pv 3) pa_nil))))
        (pss_one (ps_ret (pe_lst (pa_cons (pe_const rfl D.g_NOT_AS_TOLD) pa_nil))))
        pss_nil)
      (pss_one (ps_ret (pe_call G_put_promise (hr.mono (by decide)) rfl D.d_put_promise.g D.d_put_promise.F.kp D.d_put_promise.b .nil pass0 (pa_cons (pv 0) (pa_cons (pe_tup (pa_cons (pe_const rfl D.g_STAY) (pa_cons pe_int (pa_cons (pv 1) (pa_cons (pv 2) (pa_cons (pv 3) (pa_cons pe_int pa_nil))))))) pa_nil))))))), ?_⟩
    have hS' := hS
    obtain ⟨off, dx, ao, so, lo, po, vas, vlog, vps, rfl, a⟩ := hS'
    unfold stayTo at kQ
    refine Evl.q_when (et_sp a.read rfl rfl rfl) (fun c H1 e1 => ?_) (fun c H1 e1 => ?_)
    · refine ret_one ?_
      rw [if_pos c] at kQ
      exact (kQ.pure hS).mono e1
    · rw [if_neg (by rw [c]; decide)] at kQ
      refine Evl.q_when (Evl.et_not (Evl.et_B (ev_may_go (n := n) (k := k) rfl))) (fun c2 H2 e2 => ?_) (fun c2 H2 e2 => ?_)
      · refine ret_one ?_
        rw [if_pos c2] at kQ
        exact (kQ.pure hS).mono (e1.trans e2)
      · rw [if_neg (by rw [c2]; decide)] at kQ
        simp only [Bool.or_eq_false_iff, Bool.not_eq_false', Kp379.isPlace, Kp379.isSelf, decide_eq_true_eq] at c
        simp only [Bool.not_eq_false', Bool.and_eq_true, decide_eq_true_eq] at c2
        refine ⟨_, rfl, _, rfl, _, rfl, _, rfl, by show 6 ≤ sizeLine; decide, fun t ht => ?_⟩
        have e3 := Evl.Ex.new (o := .tup (promV ⟨1, s, p, 0, k, 0⟩)) ht
        have e13 := (e1.trans e2).trans e3
        exact ⟨X, ph, _, h, ⟨1, s, p, 0, k, 0⟩, _, rfl, ⟨t, rfl, upd_same⟩, ⟨show 1 ≤ 2 by decide, c.1, c.2, by have := a.ww.v1; show 0 < h.world.v; omega, c2.1, c2.2, show (-99 : Int) ≤ 0 by decide, show (0 : Int) ≤ 99 by decide⟩, hS.mono e13, kQ.grow e13⟩
/-! ### promise_worth -/
def worthRow (row : List Int) : Bool := decide (row.length = 1) && (decide (-99 ≤ row.headD 0) && decide (row.headD 0 ≤ 99))
def sp_is_worth_row (_n : Nm) : Sp := fun vs H Q _ => ∃ (pr : Addr) (row : List Int), vs = [.ref pr] ∧ H pr = some (.lst (row.map V.int)) ∧ RetR (fun v _ => v = .bl (worthRow row)) H Q
theorem ok_is_worth_row (D : Ds n K mg) : FnOk P w K mg base CX0 1 n.f_is_worth_row n.fd_is_worth_row P_is_worth_row (sp_is_worth_row n) := by
  refine D.d_is_worth_row.F.ok sc_is_worth_row (fun vs H Q E h => ?_) (fun cdv A outer sh H vs Q E hr h => ?_)
  · obtain ⟨pr, row, rfl, _⟩ := h
    rfl
  · obtain ⟨pr, row, rfl, hpr, kQ⟩ := h
    refine ⟨_, (pss_one (ps_ret (pe_and (pe_cmpR op_eq (pe_callB call_len_seq (by rfl) D.n_len PySem.boot_len (pa_cons (pv 0) pa_nil)) pe_int (nomark _)) (pe_one (pe_chain op_le op_le (pe_un un_neg pe_int) (pe_ix ix_list (pv 0) pe_int (fun _ _ => rfl)) pe_int))))), ?_⟩
    refine ⟨_, rfl, pr, _, rfl, Or.inl (sqL hpr), rfl, _, rfl, ?_⟩
    have el : decide (V.int (((row.map V.int).length : Nat) : Int) = V.int 1) = decide (row.length = 1) := by
      rw [int_eq (z := 1) (b := 1) rfl, List.length_map]
    refine if_c (fun c => ?_) (fun c => ?_)
    · rw [el] at c
      have c1 := of_decide_eq_true c
      match row, c1 with
      | [z], _ =>
        refine ⟨_, rfl, _, rfl, pr, _, _, _, rfl, rfl, sqL hpr, atI_nat (j := 0) rfl, _, _, rfl, rfl, _, rfl, ?_⟩
        refine if_c (fun c2 => ?_) (fun c2 => ?_)
        · refine ⟨_, _, rfl, rfl, kQ.go (Evl.Ex.refl _) ?_⟩
          have c3 : decide (-99 ≤ z) = true := c2
          show V.bl (decide (z ≤ 99)) = .bl (true && (decide (-99 ≤ z) && decide (z ≤ 99)))
          rw [c3]
          rfl
        · refine kQ.go (Evl.Ex.refl _) ?_
          have c3 : decide (-99 ≤ z) = false := c2
          show V.bl false = .bl (true && (decide (-99 ≤ z) && decide (z ≤ 99)))
          rw [c3]
          rfl
    · rw [el] at c
      refine kQ.go (Evl.Ex.refl _) ?_
      unfold worthRow
      rw [c]
      rfl
def worthTo (h : Kp381.House) (u s p k : Nat) (row : List Int) : Kp381.State × List Int := if (!Kp379.isSelf h.world u || (!Kp379.isSelf h.world s || !Kp379.isPlace h.world p)) = true then (some h, [-2]) else if (!(decide (1 ≤ k) && decide (k ≤ 4)) || !worthRow row) = true then (some h, [-22]) else promiseTo h ⟨2, s, p, u, k, row.headD 0⟩
def sp_promise_worth (n : Nm) : Sp := fun vs H Q _ => ∃ (X : List Addr) (ph pr : Addr) (S : List Addr) (h : Kp381.House) (u s p k : Nat) (row : List Int), vs = [.ref ph, .int (u : Int), .int (s : Int), .int (p : Int), .int (k : Int), .ref pr] ∧ H pr = some (.lst (row.map V.int)) ∧ StAt n X (some h) ph S H ∧ Told n X (worthTo h u s p k row).1 (worthTo h u s p k row).2 ph S H Q
theorem ok_promise_worth (D : Ds n K mg) : FnOk P w K mg base CX0 12 n.f_promise_worth n.fd_promise_worth P_promise_worth (sp_promise_worth n) := by
  have G_has_self := ok_has_self (P := P) (w := w) (base := base) D
  have G_has_place := ok_has_place (P := P) (w := w) (base := base) D
  have G_may_go := ok_may_go (P := P) (w := w) (base := base) D
  have G_is_worth_row := ok_is_worth_row (P := P) (w := w) (base := base) D
  have G_put_promise := ok_put_promise (P := P) (w := w) (base := base) D
  refine D.d_promise_worth.F.ok sc_promise_worth (fun vs H Q E h => ?_) (fun cdv A outer sh H vs Q E hr h => ?_)
  · obtain ⟨X, ph, pr, S, h, u, s, p, k, row, rfl, _⟩ := h
    rfl
  · obtain ⟨X, ph, pr, S, h, u, s, p, k, row, rfl, hpr, hS, kQ⟩ := h
    refine ⟨_, (pss_cons (ps_if (PW.pt (pw_or (pt_not (pt_val (pe_call G_has_self (hr.mono (by decide)) rfl D.d_has_self.g D.d_has_self.F.kp D.d_has_self.b .nil pass0 (pa_cons (pv 0) (pa_cons (pv 1) pa_nil))))) (pw_or (pt_not (pt_val (pe_call G_has_self (hr.mono (by decide)) rfl D.d_has_self.g D.d_has_self.F.kp D.d_has_self.b .nil pass0 (pa_cons (pv 0) (pa_cons (pv 2) pa_nil))))) (pw_or1 (pt_not (pt_val (pe_call G_has_place (hr.mono (by decide)) rfl D.d_has_place.g D.d_has_place.F.kp D.d_has_place.b .nil pass0 (pa_cons (pv 0) (pa_cons (pv 3) pa_nil)))))))))
        (pss_one (ps_ret (pe_lst (pa_cons (pe_const rfl D.g_NO_SUCH) pa_nil))))
        pss_nil)
      (pss_cons (ps_if (PW.pt (pw_or (pt_not (pt_val (pe_call G_may_go (hr.mono (by decide)) rfl D.d_may_go.g D.d_may_go.F.kp D.d_may_go.b .nil pass0 (pa_cons (pv 4) pa_nil)))) (pw_or1 (pt_not (pt_val (pe_call G_is_worth_row (hr.mono (by decide)) rfl D.d_is_worth_row.g D.d_is_worth_row.F.kp D.d_is_worth_row.b .nil pass0 (pa_cons (pv 5) pa_nil)))))))
        (pss_one (ps_ret (pe_lst (pa_cons (pe_const rfl D.g_NOT_AS_TOLD) pa_nil))))
        pss_nil)
      (pss_one (ps_ret (pe_call G_put_promise (hr.mono (by decide)) rfl D.d_put_promise.g D.d_put_promise.F.kp D.d_put_promise.b .nil pass0 (pa_cons (pv 0) (pa_cons (pe_tup (pa_cons (pe_const rfl D.g_WORTH) (pa_cons (pv 1) (pa_cons (pv 2) (pa_cons (pv 3) (pa_cons (pv 4) (pa_cons (pe_ix ix_list (pv 5) pe_int (fun _ _ => rfl)) pa_nil))))))) pa_nil))))))), ?_⟩
    have hS' := hS
    obtain ⟨off, dx, ao, so, lo, po, vas, vlog, vps, rfl, a⟩ := hS'
    unfold worthTo at kQ
    refine Evl.q_when (Evl.et_or (Evl.et_not (Evl.et_B (ev_has_self a.read rfl rfl))) fun _ => et_sp a.read rfl rfl rfl) (fun c H1 e1 => ?_) (fun c H1 e1 => ?_)
    · refine ret_one ?_
      rw [if_pos c] at kQ
      exact (kQ.pure hS).mono e1
    · rw [if_neg (by rw [c]; decide)] at kQ
      refine Evl.q_when (Evl.et_or (Evl.et_not (Evl.et_B (ev_may_go (n := n) (k := k) rfl))) fun _ => Evl.et_not (Evl.et_B (Evl.ev_call (z := .bl (worthRow row)) (Evl.ea_cons (Evl.ev_var rfl) Evl.ea_nil) fun H2 e2 Q' q _ => ⟨pr, row, rfl, (e1.trans e2) _ _ hpr, fun u H3 e3 hu => by rw [hu]; exact q H3 e3⟩))) (fun c2 H2 e2 => ?_) (fun c2 H2 e2 => ?_)
      · refine ret_one ?_
        rw [if_pos c2] at kQ
        exact (kQ.pure hS).mono (e1.trans e2)
      · rw [if_neg (by rw [c2]; decide)] at kQ
        simp only [Bool.or_eq_false_iff, Bool.not_eq_false', Kp379.isPlace, Kp379.isSelf, decide_eq_true_eq] at c
        simp only [worthRow, Bool.or_eq_false_iff, Bool.not_eq_false', Bool.and_eq_true, decide_eq_true_eq] at c2
        obtain ⟨⟨k1, k4⟩, hl, lo9, hi9⟩ := c2
        have e12 := e1.trans e2
        match row, hl, hpr, kQ, lo9, hi9 with
        | [z], _, hpr, kQ, lo9, hi9 =>
          refine ⟨_, rfl, _, rfl, _, rfl, _, rfl, _, rfl, _, rfl, pr, _, _, _, rfl, rfl, sqL (e12 _ _ hpr), atI_nat (j := 0) rfl, by show 6 ≤ sizeLine; decide, fun t ht => ?_⟩
          have e3 := Evl.Ex.new (o := .tup (promV ⟨2, s, p, u, k, z⟩)) ht
          have e13 := e12.trans e3
          exact ⟨X, ph, _, h, ⟨2, s, p, u, k, z⟩, _, rfl, ⟨t, rfl, upd_same⟩, ⟨Nat.le_refl 2, c.2.1, c.2.2, c.1, k1, k4, lo9, hi9⟩, hS.mono e13, kQ.grow e13⟩
/-! ### has_promise, tell_promise -/
def sp_has_promise (n : Nm) : Sp := fun vs H Q _ => ∃ (X : List Addr) (ph dx ao so lo po : Addr) (vas vlog vps : List V) (h : Kp381.House) (i : Nat), vs = [.ref ph, .int (i : Int)] ∧ At n X h ph dx ao so lo po vas vlog vps H ∧ RetR (fun v _ => v = .bl (decide (i < h.promises.length))) H Q
theorem ok_has_promise (D : Ds n K mg) : FnOk P w K mg base CX0 1 n.f_has_promise n.fd_has_promise P_has_promise (sp_has_promise n) := by
  refine D.d_has_promise.F.ok sc_has_promise (fun vs H Q E h => ?_) (fun cdv A outer sh H vs Q E hr h => ?_)
  · obtain ⟨X, ph, dx, ao, so, lo, po, vas, vlog, vps, h, i, rfl, _⟩ := h
    rfl
  · obtain ⟨X, ph, dx, ao, so, lo, po, vas, vlog, vps, h, i, rfl, a, kQ⟩ := h
    refine ⟨_, (pss_one (ps_ret (pe_cmpR op_lt (pv 1) (pe_callB call_len_seq (by rfl) D.n_len PySem.boot_len (pa_cons (pe_fld (pv 0) rfl) pa_nil)) (nomark _)))), ?_⟩
    refine ⟨_, rfl, _, rfl, ph, n.C_House, dx, _, _, rfl, a.hp, D.c_House.cl, D.House_promises, houseF_promises, po, vps, rfl, Or.inl (sqL a.hq), _, _, rfl, rfl, kQ.go (Evl.Ex.refl _) ?_⟩
    show V.bl (decide ((i : Int) < (vps.length : Int))) = _
    rw [a.eq.1]
    congr 1
    exact decide_eq_decide.mpr (by omega)
theorem ev_has_promise {σ : L2.St} {H : Hp} {X : List Addr} {ph dx ao so lo po : Addr} {vas vlog vps : List V} {h : Kp381.House} {i j q : Nat} (a : At n X h ph dx ao so lo po vas vlog vps H) (h1 : σ[i]? = some (some (.ref ph))) (h2 : σ[j]? = some (some (.int (q : Int)))) : Ev (tCall (sp_has_promise n) [] E0 (tCons (tVar i) (tCons (tVar j) tNil))) σ H (.bl (decide (q < h.promises.length))) :=
  Evl.ev_call (Evl.ea_cons (Evl.ev_var h1) (Evl.ea_cons (Evl.ev_var h2) Evl.ea_nil)) fun H1 e Q k _ => ⟨X, ph, dx, ao, so, lo, po, vas, vlog, vps, h, q, rfl, a.mono e, fun u H2 e2 hu => by rw [hu]; exact k H2 e2⟩
def promOut (h : Kp381.House) (i : Nat) : List Int := match h.promises[i]? with
  | none => [-2]
  | some q => promN q
def sp_tell_promise (n : Nm) : Sp := fun vs H Q _ => ∃ (X : List Addr) (ph dx ao so lo po : Addr) (vas vlog vps : List V) (h : Kp381.House) (i : Nat), vs = [.ref ph, .int (i : Int)] ∧ At n X h ph dx ao so lo po vas vlog vps H ∧ RetI (promOut h i) H Q
theorem ok_tell_promise (D : Ds n K mg) : FnOk P w K mg base CX0 2 n.f_tell_promise n.fd_tell_promise P_tell_promise (sp_tell_promise n) := by
  have G_has_promise := ok_has_promise (P := P) (w := w) (base := base) D
  refine D.d_tell_promise.F.ok sc_tell_promise (fun vs H Q E h => ?_) (fun cdv A outer sh H vs Q E hr h => ?_)
  · obtain ⟨X, ph, dx, ao, so, lo, po, vas, vlog, vps, h, i, rfl, _⟩ := h
    rfl
  · obtain ⟨X, ph, dx, ao, so, lo, po, vas, vlog, vps, h, i, rfl, a, kQ⟩ := h
    refine ⟨_, (pss_cons (ps_if (pt_not (pt_val (pe_call G_has_promise (hr.mono (by decide)) rfl D.d_has_promise.g D.d_has_promise.F.kp D.d_has_promise.b .nil pass0 (pa_cons (pv 0) (pa_cons (pv 1) pa_nil)))))
        (pss_one (ps_ret (pe_lst (pa_cons (pe_const rfl D.g_NO_SUCH) pa_nil))))
        pss_nil)
      (pss_one (ps_ret (pe_callTy call_list_of (by rfl) D.n_list (by decide +kernel) (pa_cons (pe_ix ix_list (pe_fld (pv 0) rfl) (pv 1) (fun _ _ => rfl)) pa_nil))))), ?_⟩
    unfold promOut at kQ
    refine Evl.q_when (Evl.et_not (Evl.et_B (ev_has_promise a rfl rfl))) (fun c H1 e1 => ?_) (fun c H1 e1 => ?_)
    · refine ret_one ?_
      have c1 : ¬ i < h.promises.length := by simpa using c
      rw [List.getElem?_eq_none (by omega)] at kQ
      exact kQ.mono e1
    · have c1 : i < h.promises.length := by simpa using c
      rw [List.getElem?_eq_getElem c1] at kQ
      have a1 := a.mono e1
      obtain ⟨v, hv, pq, rfl, hpq⟩ := a1.keeps.2 i _ (List.getElem?_eq_getElem c1)
      refine ⟨_, rfl, ph, n.C_House, dx, _, _, rfl, a1.hp, D.c_House.cl, D.House_promises, houseF_promises, _, rfl, po, _, _, _, rfl, rfl, sqL a1.hq, atI_nat hv, pq, _, rfl, Or.inr (sqT hpq), fun r hr9 => ?_⟩
      exact (kQ.mono e1).new hr9
/-! ### take_promise -/
def unpromTo (h : Kp381.House) (i : Nat) : Kp381.State × List Int := if (!decide (i < h.promises.length)) = true then (some h, [-2]) else (some { h with promises := h.promises.take i ++ h.promises.drop (i + 1) }, [((h.promises.length - 1 : Nat) : Int)])
def sp_take_promise (n : Nm) : Sp := fun vs H Q _ => ∃ (X : List Addr) (ph : Addr) (S : List Addr) (h : Kp381.House) (i : Nat), vs = [.ref ph, .int (i : Int)] ∧ StAt n X (some h) ph S H ∧ Told n X (unpromTo h i).1 (unpromTo h i).2 ph S H Q
theorem seq_at {α : Type} {vs : List α} {i : Nat} (h : i < vs.length) : seqIndex? (i : Int) vs.length = some i := by
  unfold seqIndex?
  grind
theorem ok_take_promise (D : Ds n K mg) : FnOk P w K mg base CX0 2 n.f_take_promise n.fd_take_promise P_take_promise (sp_take_promise n) := by
  have G_has_promise := ok_has_promise (P := P) (w := w) (base := base) D
  refine D.d_take_promise.F.ok sc_take_promise (fun vs H Q E h => ?_) (fun cdv A outer sh H vs Q E hr h => ?_)
  · obtain ⟨X, ph, S, h, i, rfl, _⟩ := h
    rfl
  · obtain ⟨X, ph, S, h, i, rfl, hS, kQ⟩ := h
    refine ⟨_, (pss_cons (ps_if (pt_not (pt_val (pe_call G_has_promise (hr.mono (by decide)) rfl D.d_has_promise.g D.d_has_promise.F.kp D.d_has_promise.b .nil pass0 (pa_cons (pv 0) (pa_cons (pv 1) pa_nil)))))
        (pss_one (ps_ret (pe_lst (pa_cons (pe_const rfl D.g_NO_SUCH) pa_nil))))
        pss_nil)
      (pss_cons (ps_expr (pe_bm PySem.F.plainAttrs_list PySem.F.slot_list_pop PySem.F.type_list_pop mt_popAt (pe_fld (pv 0) rfl) (pa_cons (pv 1) pa_nil)))
      (pss_one (ps_ret (pe_lst (pa_cons (pe_callB call_len_seq (by rfl) D.n_len PySem.boot_len (pa_cons (pe_fld (pv 0) rfl) pa_nil)) pa_nil)))))), ?_⟩
    have hS' := hS
    obtain ⟨off, dx, ao, so, lo, po, vas, vlog, vps, rfl, a⟩ := hS'
    have lp := a.lp
    unfold unpromTo at kQ
    refine Evl.q_when (Evl.et_not (Evl.et_B (ev_has_promise a rfl rfl))) (fun c H1 e1 => ?_) (fun c H1 e1 => ?_)
    · refine ret_one ?_
      rw [if_pos c] at kQ
      exact (kQ.pure hS).mono e1
    · rw [if_neg (by rw [c]; decide)] at kQ
      have c1 : i < h.promises.length := by simpa using c
      have a1 := a.mono e1
      have hlv : i < vps.length := by rw [a.eq.1]; exact c1
      refine ⟨_, rfl, ph, n.C_House, dx, _, _, rfl, a1.hp, D.c_House.cl, D.House_promises, houseF_promises, .inl ⟨rfl, _, sqL a1.hq⟩, _, rfl, po, vps, (i : Int), i, vps[i], rfl, rfl, a1.hq, by omega, by omega, seq_at hlv, List.getElem?_eq_getElem hlv, ?_⟩
      have hE := a1.eq.erase i c1
      rw [erase_split] at hE
      have a2 := a1.setProm hE (by rw [← erase_split, List.length_eraseIdx_of_lt c1]; omega) (fun b hb => by
        rw [← erase_split] at hb
        exact a.wp b (List.mem_of_mem_eraseIdx hb))
      refine ⟨_, rfl, ph, n.C_House, dx, _, _, rfl, a2.hp, D.c_House.cl, D.House_promises, houseF_promises, po, _, rfl, Or.inl (sqL a2.hq), by show 1 ≤ sizeLine; decide, fun r hr9 => ?_⟩
      have kp : ∀ b o, H b = some o → b ∉ [ph, ao, lo, po] → (upd H1 po (.lst (vps.eraseIdx i))) b = some o := fun b o hb nb => by
        rw [upd_ne (fun z => nb (by rw [z]; simp))]
        exact e1 _ _ hb
      refine Told.fin off kp a2 (Evl.Ex.new hr9) hr9 ?_ kQ
      rw [upd_same]
      show some (HO.lst [V.int ((vps.eraseIdx i).length : Int)]) = some (HO.lst [V.int ((h.promises.length - 1 : Nat) : Int)])
      rw [List.length_eraseIdx_of_lt hlv, a.eq.1]
/-! ### tell_holds -/
def holdsOut (h : Kp381.House) (kd s p k : Nat) : List Int := if (!Kp379.isSelf h.world s || !Kp379.isPlace h.world p) = true then [-2] else if (decide (1 < kd) || !(decide (1 ≤ k) && decide (k ≤ 4))) = true then [-22] else [if Kp381.kept h.world ⟨kd, s, p, 0, k, 0⟩ = true then 1 else 0]
def sp_tell_holds (n : Nm) : Sp := fun vs H Q _ => ∃ (X : List Addr) (ph dx ao so lo po : Addr) (vas vlog vps : List V) (h : Kp381.House) (kd s p k : Nat), vs = [.ref ph, .int (kd : Int), .int (s : Int), .int (p : Int), .int (k : Int)] ∧ At n X h ph dx ao so lo po vas vlog vps H ∧ RetI (holdsOut h kd s p k) H Q
theorem ok_tell_holds (D : Ds n K mg) : FnOk P w K mg base CX0 11 n.f_tell_holds n.fd_tell_holds P_tell_holds (sp_tell_holds n) := by
  have G_has_self := ok_has_self (P := P) (w := w) (base := base) D
  have G_has_place := ok_has_place (P := P) (w := w) (base := base) D
  have G_may_go := ok_may_go (P := P) (w := w) (base := base) D
  have G_would_be_kept := ok_would_be_kept (P := P) (w := w) (base := base) D
  refine D.d_tell_holds.F.ok sc_tell_holds (fun vs H Q E h => ?_) (fun cdv A outer sh H vs Q E hr h => ?_)
  · obtain ⟨X, ph, dx, ao, so, lo, po, vas, vlog, vps, h, kd, s, p, k, rfl, _⟩ := h
    rfl
  · obtain ⟨X, ph, dx, ao, so, lo, po, vas, vlog, vps, h, kd, s, p, k, rfl, a, kQ⟩ := h
    refine ⟨_, (pss_cons (ps_if (PW.pt (pw_or (pt_not (pt_val (pe_call G_has_self (hr.mono (by decide)) rfl D.d_has_self.g D.d_has_self.F.kp D.d_has_self.b .nil pass0 (pa_cons (pv 0) (pa_cons (pv 2) pa_nil))))) (pw_or1 (pt_not (pt_val (pe_call G_has_place (hr.mono (by decide)) rfl D.d_has_place.g D.d_has_place.F.kp D.d_has_place.b .nil pass0 (pa_cons (pv 0) (pa_cons (pv 3) pa_nil))))))))
        (pss_one (ps_ret (pe_lst (pa_cons (pe_const rfl D.g_NO_SUCH) pa_nil))))
        pss_nil)
      (pss_cons (ps_if (PW.pt (pw_or (pt_cmpR op_gt (pv 1) (pe_const rfl D.g_STAY) (nomark _)) (pw_or1 (pt_not (pt_val (pe_call G_may_go (hr.mono (by decide)) rfl D.d_may_go.g D.d_may_go.F.kp D.d_may_go.b .nil pass0 (pa_cons (pv 4) pa_nil)))))))
        (pss_one (ps_ret (pe_lst (pa_cons (pe_const rfl D.g_NOT_AS_TOLD) pa_nil))))
        pss_nil)
      (pss_one (ps_ret (pe_lst (pa_cons (pe_ifExp (pt_val (pe_call G_would_be_kept (hr.mono (by decide)) rfl D.d_would_be_kept.g D.d_would_be_kept.F.kp D.d_would_be_kept.b .nil pass0 (pa_cons (pv 0) (pa_cons (pe_tup (pa_cons (pv 1) (pa_cons pe_int (pa_cons (pv 2) (pa_cons (pv 3) (pa_cons (pv 4) (pa_cons pe_int pa_nil))))))) pa_nil)))) pe_int pe_int) pa_nil)))))), ?_⟩
    unfold holdsOut at kQ
    refine Evl.q_when (et_sp a.read rfl rfl rfl) (fun c H1 e1 => ?_) (fun c H1 e1 => ?_)
    · refine ret_one ?_
      rw [if_pos c] at kQ
      exact kQ.mono e1
    · rw [if_neg (by rw [c]; decide)] at kQ
      refine Evl.q_when (Evl.et_or (et_gt (m := 1) (x := kd) (Evl.ev_var rfl)) fun _ => Evl.et_not (Evl.et_B (ev_may_go (n := n) (k := k) rfl))) (fun c2 H2 e2 => ?_) (fun c2 H2 e2 => ?_)
      · refine ret_one ?_
        rw [if_pos c2] at kQ
        exact kQ.mono (e1.trans e2)
      · rw [if_neg (by rw [c2]; decide)] at kQ
        simp only [Bool.or_eq_false_iff, Bool.not_eq_false', Kp379.isPlace, Kp379.isSelf, decide_eq_true_eq] at c
        simp only [Bool.or_eq_false_iff, Bool.not_eq_false', Bool.and_eq_true, decide_eq_true_eq, decide_eq_false_iff_not] at c2
        have e12 := e1.trans e2
        refine ⟨_, rfl, _, rfl, _, rfl, _, rfl, _, rfl, by show 6 ≤ sizeLine; decide, fun t ht => ?_⟩
        have e3 := Evl.Ex.new (o := .tup (promV ⟨kd, s, p, 0, k, 0⟩)) ht
        have e13 := e12.trans e3
        refine ⟨_, _, h.world, ⟨kd, s, p, 0, k, 0⟩, rfl, (a.mono e13).read, ⟨t, rfl, upd_same⟩, a.ww, ⟨by show kd ≤ 2; omega, c.1, c.2, by have := a.ww.v1; show 0 < h.world.v; omega, c2.2.1, c2.2.2, show (-99 : Int) ≤ 0 by decide, show (0 : Int) ≤ 99 by decide⟩, fun u H4 e4 hu => ?_⟩
        subst hu
        refine ⟨_, rfl, ?_⟩
        refine if_c (fun c3 => ?_) (fun c3 => ?_)
        · rw [if_pos c3] at kQ
          exact ⟨by show 1 ≤ sizeLine; decide, fun r hr9 => (kQ.mono (e13.trans e4)).new hr9⟩
        · rw [if_neg (by rw [c3]; decide)] at kQ
          exact ⟨by show 1 ≤ sizeLine; decide, fun r hr9 => (kQ.mono (e13.trans e4)).new hr9⟩
/-! ### tell_count -/
def countOut (h : Kp381.House) : List Int := [4, (h.world.n : Int), (h.world.v : Int), (h.promises.length : Int), (h.log.length : Int)]
def sp_tell_count (n : Nm) : Sp := fun vs H Q _ => ∃ (X : List Addr) (ph dx ao so lo po : Addr) (vas vlog vps : List V) (h : Kp381.House), vs = [.ref ph] ∧ At n X h ph dx ao so lo po vas vlog vps H ∧ RetI (countOut h) H Q
theorem ok_tell_count (D : Ds n K mg) : FnOk P w K mg base CX0 1 n.f_tell_count n.fd_tell_count P_tell_count (sp_tell_count n) := by
  refine D.d_tell_count.F.ok sc_tell_count (fun vs H Q E h => ?_) (fun cdv A outer sh H vs Q E hr h => ?_)
  · obtain ⟨X, ph, dx, ao, so, lo, po, vas, vlog, vps, h, rfl, _⟩ := h
    rfl
  · obtain ⟨X, ph, dx, ao, so, lo, po, vas, vlog, vps, h, rfl, a, kQ⟩ := h
    refine ⟨_, (pss_one (ps_ret (pe_lst (pa_cons pe_int (pa_cons (pe_fld (pv 0) rfl) (pa_cons (pe_fld (pv 0) rfl) (pa_cons (pe_callB call_len_seq (by rfl) D.n_len PySem.boot_len (pa_cons (pe_fld (pv 0) rfl) pa_nil)) (pa_cons (pe_callB call_len_seq (by rfl) D.n_len PySem.boot_len (pa_cons (pe_fld (pv 0) rfl) pa_nil)) pa_nil)))))))), ?_⟩
    refine ⟨_, rfl, ph, n.C_House, dx, _, _, rfl, a.hp, D.c_House.cl, D.House_places, houseF_places, _, rfl, ph, n.C_House, dx, _, _, rfl, a.hp, D.c_House.cl, D.House_selves, houseF_selves, _, rfl, ph, n.C_House, dx, _, _, rfl, a.hp, D.c_House.cl, D.House_promises, houseF_promises, po, vps, rfl, Or.inl (sqL a.hq), _, rfl, ph, n.C_House, dx, _, _, rfl, a.hp, D.c_House.cl, D.House_log, houseF_log, lo, vlog, rfl, Or.inl (sqL a.hl), by show 5 ≤ sizeLine; decide, fun r hr9 => ?_⟩
    have e1 : (vps.length : Int) = (h.promises.length : Int) := by rw [a.eq.1]
    have e2 : (vlog.length : Int) = (h.log.length : Int) := by rw [a.el.1]
    rw [e1, e2]
    exact kQ.new hr9
end
end CI
/-! The changes, as the specification has them: refused if a promise weren't kept. -/
namespace CI
open Kp379 (Stand)
section
variable {h : Kp381.House}
/-- what `change` does with an answer of one number -/
theorem change_one (c : Kp380.Call) {w' : Kp379.World} {z : Int} (hc : Kp380.step (some h.world) c = (some w', Kp380.say z)) (hz : 0 ≤ z) :
    ((Kp381.change (some h) h c).1, (Kp381.change (some h) h c).2.num :: (Kp381.change (some h) h c).2.nums) = guarded h (some { h with world := w' }, [z]) := by
  unfold Kp381.change guarded
  rw [hc]
  show (let q := (if z < 0 then _ else _ : Kp381.State × Kp381.Ans); (q.1, q.2.num :: q.2.nums)) = if z < 0 then _ else _
  rw [if_neg (show ¬ z < 0 by omega), if_neg (show ¬ z < 0 by omega)]
  show (let q := (if Kp381.allKept { h with world := w' } = true then _ else _ : Kp381.State × Kp381.Ans); (q.1, q.2.num :: q.2.nums)) = if Kp381.allKept { h with world := w' } = true then _ else _
  split <;> rfl
theorem change_no (c : Kp380.Call) {w' : Option Kp379.World} {z : Int} (hc : Kp380.step (some h.world) c = (w', Kp380.say z)) (hz : z < 0) :
    ((Kp381.change (some h) h c).1, (Kp381.change (some h) h c).2.num :: (Kp381.change (some h) h c).2.nums) = guarded h (some h, [z]) := by
  unfold Kp381.change guarded
  rw [hc]
  show (let q := (if z < 0 then _ else _ : Kp381.State × Kp381.Ans); (q.1, q.2.num :: q.2.nums)) = if z < 0 then _ else _
  rw [if_pos hz, if_pos hz]
  rfl
theorem ns_act (p : Nat) (row : List Int) : Ns (some h) [((1 : Nat) : Int) :: (p : Int) :: row] = guarded h (actTo h p row) := by
  show ((Kp381.change (some h) h (.act p row)).1, (Kp381.change (some h) h (.act p row)).2.num :: (Kp381.change (some h) h (.act p row)).2.nums) = _
  unfold actTo
  cases c : Kp379.isPlace h.world p with
  | false =>
    rw [if_pos (by rfl)]
    refine change_no _ (w' := some h.world) ?_ (by decide)
    simp only [Kp380.step, Kp380.under, Kp379.step, c, if_true]
    rfl
  | true =>
    rw [if_neg (by decide)]
    cases hx : Kp379.readAct h.world row with
    | none =>
      refine change_no _ (w' := some h.world) ?_ (by decide)
      simp only [Kp380.step, Kp380.under, Kp379.step, c, hx]
      rfl
    | some x =>
      simp only
      by_cases d : 3 ≤ (Kp379.actsAt h.world p).length
      · rw [if_pos d]
        refine change_no _ (w' := some h.world) ?_ (by decide)
        simp only [Kp380.step, Kp380.under, Kp379.step, c, hx, Kp379.ACTS, d, if_true]
        rfl
      · rw [if_neg d]
        refine change_one _ ?_ (by omega)
        simp only [Kp380.step, Kp380.under, Kp379.step, c, hx, Kp379.ACTS, d, if_false]
        show (if (((Kp379.actsAt h.world p).length : Nat) : Int) < 0 then _ else _, _) = _
        rw [if_neg (by omega)]
        rfl
theorem ns_unact (p a : Nat) : Ns (some h) [[((2 : Nat) : Int), (p : Int), (a : Int)]] = guarded h (unactTo h p a) := by
  show ((Kp381.change (some h) h (.unact p a)).1, (Kp381.change (some h) h (.unact p a)).2.num :: (Kp381.change (some h) h (.unact p a)).2.nums) = _
  unfold unactTo
  cases c : Kp379.isAct h.world p a with
  | false =>
    rw [if_pos (by rfl)]
    refine change_no _ (w' := some h.world) ?_ (by decide)
    simp only [Kp380.step, Kp380.under, Kp379.step, c, if_true]
    rfl
  | true =>
    rw [if_neg (by decide)]
    refine change_one _ ?_ (by omega)
    simp only [Kp380.step, Kp380.under, Kp379.step, c]
    show (if (((Kp379.actsAt h.world p).length - 1 : Nat) : Int) < 0 then _ else _, _) = _
    rw [if_neg (by omega)]
    rfl
theorem ns_turn (p a t : Nat) : Ns (some h) [[((3 : Nat) : Int), (p : Int), (a : Int), (t : Int)]] = guarded h (turnTo h p a t) := by
  show ((Kp381.change (some h) h (.turn p a t)).1, (Kp381.change (some h) h (.turn p a t)).2.num :: (Kp381.change (some h) h (.turn p a t)).2.nums) = _
  unfold turnTo
  cases c : Kp379.isAct h.world p a with
  | false =>
    rw [if_pos (by rfl)]
    refine change_no _ (w' := some h.world) ?_ (by decide)
    simp only [Kp380.step, Kp380.under, Kp379.step, c, if_true]
    rfl
  | true =>
    rw [if_neg (by decide)]
    by_cases d : h.world.v < t
    · rw [if_pos d]
      refine change_no _ (w' := some h.world) ?_ (by decide)
      simp only [Kp380.step, Kp380.under, Kp379.step, c, d, if_true]
      rfl
    · rw [if_neg d]
      refine change_one _ ?_ (by omega)
      simp only [Kp380.step, Kp380.under, Kp379.step, c, d, if_false]
      show (if (((Kp379.actAt h.world p a).turn : Nat) : Int) < 0 then _ else _, _) = _
      rw [if_neg (by omega)]
      rfl
theorem ns_lock (p a b : Nat) : Ns (some h) [[((4 : Nat) : Int), (p : Int), (a : Int), (b : Int)]] = guarded h (lockTo h p a b) := by
  show ((Kp381.change (some h) h (.lock p a b)).1, (Kp381.change (some h) h (.lock p a b)).2.num :: (Kp381.change (some h) h (.lock p a b)).2.nums) = _
  unfold lockTo
  cases c : Kp379.isAct h.world p a with
  | false =>
    rw [if_pos (by rfl)]
    refine change_no _ (w' := some h.world) ?_ (by decide)
    simp only [Kp380.step, Kp380.under, Kp379.step, c, if_true]
    rfl
  | true =>
    rw [if_neg (by decide)]
    by_cases d : 1 < b
    · rw [if_pos d]
      refine change_no _ (w' := some h.world) ?_ (by decide)
      simp only [Kp380.step, Kp380.under, Kp379.step, c, d, if_true]
      rfl
    · rw [if_neg d]
      have hb : 0 ≤ b2 (Kp379.actAt h.world p a).lock := by
        cases (Kp379.actAt h.world p a).lock <;> decide
      refine change_one _ ?_ hb
      simp only [Kp380.step, Kp380.under, Kp379.step, c, d, if_false]
      show (if b2 (Kp379.actAt h.world p a).lock < 0 then _ else _, _) = _
      rw [if_neg (by omega)]
      rfl
theorem ns_addTwins (ww : WfW h.world) (p : Nat) : Ns (some h) [[((5 : Nat) : Int), (p : Int)]] = guarded h (twinsTo h p) := by
  show ((Kp381.change (some h) h (.addTwins p)).1, (Kp381.change (some h) h (.addTwins p)).2.num :: (Kp381.change (some h) h (.addTwins p)).2.nums) = _
  unfold twinsTo
  cases c : Kp379.isPlace h.world p with
  | false =>
    rw [if_pos (by rfl)]
    refine change_no _ (w' := some h.world) ?_ (by decide)
    simp only [Kp380.step, c, if_true]
  | true =>
    rw [if_neg (by decide)]
    refine change_one _ ?_ (by omega)
    have hp : p < h.world.acts.length := by
      rw [ww.al]
      exact of_decide_eq_true c
    have e := withTwins_is hp
    have at_ : Kp379.actsAt (Kp380.withTwins h.world p) p = twins (Kp379.actsAt h.world p) (Kp379.actsAt h.world p).length := by
      rw [e]
      show (h.world.acts.set p _).getD p [] = _
      rw [List.getD_eq_getElem?_getD, List.getElem?_set_self hp]
      rfl
    simp only [Kp380.step, c]
    show (some (Kp380.withTwins h.world p), Kp380.say (((Kp379.actsAt (Kp380.withTwins h.world p) p).length - (Kp379.actsAt h.world p).length : Nat) : Int)) = _
    rw [at_, e]
theorem okSteps_is (k : Nat) : Kp381.okSteps k = (decide (1 ≤ k) && decide (k ≤ 4)) := rfl
theorem steps_bad {k : Nat} {c : Prop} {b : Bool} (h : c ↔ b = true) : (Kp381.okSteps k = false ∨ c) ↔ (!(decide (1 ≤ k) && decide (k ≤ 4)) || b) = true := by
  rw [okSteps_is, Bool.or_eq_true, Bool.not_eq_true', h]
theorem ns_go (hl : h.log.length ≤ 16) (k luck : Nat) : Ns (some h) [[((12 : Nat) : Int), (k : Int), (luck : Int)]] = goTo h k luck := by
  show (let q := (if Kp381.okSteps k = false ∨ 999 < luck then (some h, Kp381.say (-22)) else if Kp381.LOG ≤ h.log.length then (some h, Kp381.say (-28)) else (match Kp381.goOne h k luck with
        | none => (some h, Kp381.say (-33))
        | some r => (some r.1, ⟨(r.2.a : Int), Kp381.standRow r.2.behind_⟩)) : Kp381.State × Kp381.Ans); (q.1, q.2.num :: q.2.nums)) = _
  unfold goTo
  have e1 := steps_bad (k := k) (c := 999 < luck) (b := decide (999 < luck)) decide_eq_true_iff.symm
  by_cases c : Kp381.okSteps k = false ∨ 999 < luck
  · rw [if_pos c, if_pos (e1.mp c)]
    rfl
  · rw [if_neg c, if_neg (fun z => c (e1.mpr z))]
    by_cases d : h.log.length = 16
    · rw [if_pos (show Kp381.LOG ≤ h.log.length by rw [d]; exact Nat.le_refl _), if_pos d]
      rfl
    · rw [if_neg (show ¬ Kp381.LOG ≤ h.log.length by show ¬ 16 ≤ _; omega), if_neg d, goOne_is]
      cases Kp379.does h.world h.now k with
      | none => rfl
      | some a => rfl
theorem ns_ifGo (k luck : Nat) : Ns (some h) [[((13 : Nat) : Int), (k : Int), (luck : Int)]] = (some h, aheadOut h k luck) := by
  refine Prod.ext rfl ?_
  show (let q := (if Kp381.okSteps k = false ∨ 999 < luck then Kp381.say (-22) else match Kp381.goOne h k luck with
        | none => Kp381.say (-33)
        | some r => ⟨(r.2.a : Int), Kp381.standRow r.2.behind_⟩ : Kp381.Ans); q.num :: q.nums) = aheadOut h k luck
  unfold aheadOut
  have e1 := steps_bad (k := k) (c := 999 < luck) (b := decide (999 < luck)) decide_eq_true_iff.symm
  by_cases c : Kp381.okSteps k = false ∨ 999 < luck
  · rw [if_pos c, if_pos (e1.mp c)]
    rfl
  · rw [if_neg c, if_neg (fun z => c (e1.mpr z)), goOne_is]
    cases Kp379.does h.world h.now k with
    | none => rfl
    | some a => rfl
theorem row_toNat (l : List Nat) : (l.map fun (m : Nat) => (m : Int)).map Int.toNat = l := by
  rw [List.map_map]
  induction l with
  | nil => rfl
  | cons x r ih =>
    rw [List.map_cons, ih]
    rfl
theorem ns_run (k : Nat) (l : List Nat) : Ns (some h) [((14 : Nat) : Int) :: (k : Int) :: l.map (fun (m : Nat) => (m : Int))] = runTo h k l := by
  show (let q := (if Kp381.okSteps k = false ∨ ((l.map fun (m : Nat) => (m : Int)).map Int.toNat).length ≠ k ∨ ((l.map fun (m : Nat) => (m : Int)).map Int.toNat).any (fun x => decide (999 < x)) = true then (some h, Kp381.say (-22)) else if Kp381.LOG < h.log.length + k then (some h, Kp381.say (-28)) else
        (some (Kp381.runFrom k h ((l.map fun (m : Nat) => (m : Int)).map Int.toNat) 0).1, ⟨((Kp381.runFrom k h ((l.map fun (m : Nat) => (m : Int)).map Int.toNat) 0).2 : Int), Kp381.standRow (Kp381.runFrom k h ((l.map fun (m : Nat) => (m : Int)).map Int.toNat) 0).1.now⟩) : Kp381.State × Kp381.Ans); (q.1, q.2.num :: q.2.nums)) = _
  rw [row_toNat]
  unfold runTo
  have e1 := steps_bad (k := k) (c := l.length ≠ k ∨ l.any (fun x => decide (999 < x)) = true) (b := !(decide (l.length = k) && l.all fun x => decide (x ≤ 999))) (by
    have ea : (l.any fun x => decide (999 < x)) = !(l.all fun x => decide (x ≤ 999)) := by
      rw [List.not_all_eq_any_not]
      refine any_congr fun x _ => ?_
      by_cases c : x ≤ 999
      · rw [decide_eq_true c, decide_eq_false (by omega)]
        rfl
      · rw [decide_eq_false c, decide_eq_true (by omega)]
        rfl
    rw [ea]
    by_cases c : l.length = k
    · cases l.all fun x => decide (x ≤ 999) <;> simp [c]
    · simp [c])
  by_cases c : Kp381.okSteps k = false ∨ l.length ≠ k ∨ l.any (fun x => decide (999 < x)) = true
  · rw [if_pos c, if_pos (e1.mp c)]
    rfl
  · rw [if_neg c, if_neg (fun z => c (e1.mpr z))]
    by_cases d : 16 < h.log.length + k
    · rw [if_pos (show Kp381.LOG < h.log.length + k from d), if_pos d]
      rfl
    · rw [if_neg (show ¬ Kp381.LOG < h.log.length + k from d), if_neg d]
      rfl
theorem ns_became : Ns (some h) [[((17 : Nat) : Int)]] = (some h, becameOut h) := rfl
theorem ns_paid : Ns (some h) [[((16 : Nat) : Int)]] = (some h, paidOut h) := rfl
theorem ns_count : Ns (some h) [[((25 : Nat) : Int)]] = (some h, countOut h) := rfl
theorem ns_entry (i : Nat) : Ns (some h) [[((15 : Nat) : Int), (i : Int)]] = (some h, entryOut h i) := by
  refine Prod.ext rfl ?_
  show (let q := (match h.log[i]? with
        | none => Kp381.say (-2)
        | some e => ⟨(e.a : Int), (e.k : Int) :: Kp381.entryRow e⟩ : Kp381.Ans); q.num :: q.nums) = entryOut h i
  unfold entryOut
  cases h.log[i]? <;> rfl
theorem ns_still (k : Nat) : Ns (some h) [[((18 : Nat) : Int), (k : Int)]] = (some h, stillOut h k) := by
  refine Prod.ext rfl ?_
  show (let q := (if Kp379.LONG < k then Kp381.say (-22) else ⟨0, [((Kp379.selves h.world h.now k).getD h.now.s (0, 1)).1, ((Kp379.selves h.world h.now k).getD h.now.s (0, 1)).2]⟩ : Kp381.Ans); q.num :: q.nums) = stillOut h k
  unfold stillOut
  by_cases c : 4 < k
  · rw [if_pos (show Kp379.LONG < k from c), if_pos c]
    rfl
  · rw [if_neg (show ¬ Kp379.LONG < k from c), if_neg c]
theorem promise_is (hl : h.promises.length ≤ 4) (q : Kp381.Promise) : ((Kp381.promise (some h) h q).1, (Kp381.promise (some h) h q).2.num :: (Kp381.promise (some h) h q).2.nums) = promiseTo h q := by
  unfold Kp381.promise promiseTo
  by_cases c : h.promises.contains q = true
  · rw [if_pos c, if_pos c]
    rfl
  · rw [if_neg c, if_neg c]
    by_cases d : Kp381.kept h.world q = false
    · rw [if_pos d, if_pos (by rw [d]; rfl)]
      rfl
    · rw [if_neg d, if_neg (show ¬ (!Kp381.kept h.world q) = true by simpa using d)]
      by_cases e : h.promises.length = 4
      · rw [if_pos (show Kp381.PROMISES ≤ h.promises.length by show 4 ≤ _; omega), if_pos e]
        rfl
      · rw [if_neg (show ¬ Kp381.PROMISES ≤ h.promises.length by show ¬ 4 ≤ _; omega), if_neg e]
        rfl
theorem ns_never (hl : h.promises.length ≤ 4) (s k : Nat) : Ns (some h) [[((19 : Nat) : Int), (s : Int), (k : Int)]] = neverTo h s k := by
  show (let q := (if Kp379.isSelf h.world s = false then (some h, Kp381.say (-2)) else if Kp381.okSteps k = false then (some h, Kp381.say (-22)) else Kp381.promise (some h) h ⟨0, s, 0, 0, k, 0⟩ : Kp381.State × Kp381.Ans); (q.1, q.2.num :: q.2.nums)) = _
  unfold neverTo
  rw [← promise_is hl, okSteps_is]
  by_cases c : Kp379.isSelf h.world s = false
  · rw [if_pos c, if_pos (by rw [c]; rfl)]
    rfl
  · rw [if_neg c, if_neg (show ¬ (!Kp379.isSelf h.world s) = true by simpa using c)]
    by_cases d : (decide (1 ≤ k) && decide (k ≤ 4)) = false
    · rw [if_pos d, if_pos (by rw [d]; rfl)]
      rfl
    · rw [if_neg d, if_neg (show ¬ (!(decide (1 ≤ k) && decide (k ≤ 4))) = true by rw [Bool.not_eq_true']; exact d)]
theorem two_bad {a b : Bool} : (a = false ∨ b = false) ↔ (!a || !b) = true := by
  cases a <;> cases b <;> simp
theorem ns_stay (hl : h.promises.length ≤ 4) (s p k : Nat) : Ns (some h) [[((20 : Nat) : Int), (s : Int), (p : Int), (k : Int)]] = stayTo h s p k := by
  show (let q := (if Kp379.isSelf h.world s = false ∨ Kp379.isPlace h.world p = false then (some h, Kp381.say (-2)) else if Kp381.okSteps k = false then (some h, Kp381.say (-22)) else Kp381.promise (some h) h ⟨1, s, p, 0, k, 0⟩ : Kp381.State × Kp381.Ans); (q.1, q.2.num :: q.2.nums)) = _
  unfold stayTo
  rw [← promise_is hl, okSteps_is]
  by_cases c : Kp379.isSelf h.world s = false ∨ Kp379.isPlace h.world p = false
  · rw [if_pos c, if_pos (two_bad.mp c)]
    rfl
  · rw [if_neg c, if_neg (fun z => c (two_bad.mpr z))]
    by_cases d : (decide (1 ≤ k) && decide (k ≤ 4)) = false
    · rw [if_pos d, if_pos (by rw [d]; rfl)]
      rfl
    · rw [if_neg d, if_neg (show ¬ (!(decide (1 ≤ k) && decide (k ≤ 4))) = true by rw [Bool.not_eq_true']; exact d)]
theorem ns_worth (hl : h.promises.length ≤ 4) (u s p k : Nat) (row : List Int) : Ns (some h) [((21 : Nat) : Int) :: (u : Int) :: (s : Int) :: (p : Int) :: (k : Int) :: row] = worthTo h u s p k row := by
  show (let q := (if Kp379.isSelf h.world u = false ∨ Kp379.isSelf h.world s = false ∨ Kp379.isPlace h.world p = false then (some h, Kp381.say (-2)) else (match row with
        | [x] => if Kp381.okSteps k = false ∨ x < -99 ∨ 99 < x then (some h, Kp381.say (-22)) else Kp381.promise (some h) h ⟨2, s, p, u, k, x⟩
        | _ => (some h, Kp381.say (-22))) : Kp381.State × Kp381.Ans); (q.1, q.2.num :: q.2.nums)) = _
  unfold worthTo
  rw [← promise_is hl]
  have e0 : (Kp379.isSelf h.world u = false ∨ Kp379.isSelf h.world s = false ∨ Kp379.isPlace h.world p = false) ↔ (!Kp379.isSelf h.world u || (!Kp379.isSelf h.world s || !Kp379.isPlace h.world p)) = true := by
    cases Kp379.isSelf h.world u <;> cases Kp379.isSelf h.world s <;> cases Kp379.isPlace h.world p <;> simp
  by_cases c : Kp379.isSelf h.world u = false ∨ Kp379.isSelf h.world s = false ∨ Kp379.isPlace h.world p = false
  · rw [if_pos c, if_pos (e0.mp c)]
    rfl
  · rw [if_neg c, if_neg (fun z => c (e0.mpr z))]
    match row with
    | [] =>
      rw [if_pos (by rw [Bool.or_eq_true]; exact Or.inr rfl)]
      rfl
    | x :: y :: r =>
      rw [if_pos (by rw [Bool.or_eq_true]; exact Or.inr (by simp [worthRow]))]
      rfl
    | [x] =>
      have e1 := steps_bad (k := k) (c := x < -99 ∨ 99 < x) (b := !worthRow [x]) (by
        show _ ↔ (!(true && (decide (-99 ≤ x) && decide (x ≤ 99)))) = true
        simp only [Bool.true_and, Bool.not_eq_true', Bool.and_eq_false_iff, decide_eq_false_iff_not]
        omega)
      by_cases d : Kp381.okSteps k = false ∨ x < -99 ∨ 99 < x
      · rw [if_pos (e1.mp d)]
        simp only [if_pos d]
        rfl
      · rw [if_neg (fun z => d (e1.mpr z))]
        simp only [if_neg d]
        rfl
theorem ns_promiseIs (i : Nat) : Ns (some h) [[((22 : Nat) : Int), (i : Int)]] = (some h, promOut h i) := by
  refine Prod.ext rfl ?_
  show (let q := (match h.promises[i]? with
        | none => Kp381.say (-2)
        | some q => ⟨(q.kind : Int), [(q.u : Int), (q.s : Int), (q.p : Int), (q.k : Int), q.x]⟩ : Kp381.Ans); q.num :: q.nums) = promOut h i
  unfold promOut
  cases h.promises[i]? <;> rfl
theorem ns_unpromise (i : Nat) : Ns (some h) [[((23 : Nat) : Int), (i : Int)]] = unpromTo h i := by
  show (let q := (if h.promises.length ≤ i then (some h, Kp381.say (-2)) else (some { h with promises := h.promises.take i ++ h.promises.drop (i + 1) }, Kp381.say (h.promises.length - 1 : Nat)) : Kp381.State × Kp381.Ans); (q.1, q.2.num :: q.2.nums)) = _
  unfold unpromTo
  by_cases c : h.promises.length ≤ i
  · rw [if_pos c, if_pos (by rw [decide_eq_false (by omega)]; rfl)]
    rfl
  · rw [if_neg c, if_neg (by rw [decide_eq_true (by omega)]; decide)]
    rfl
theorem ns_holds (kd s p k : Nat) : Ns (some h) [[((24 : Nat) : Int), (kd : Int), (s : Int), (p : Int), (k : Int)]] = (some h, holdsOut h kd s p k) := by
  refine Prod.ext rfl ?_
  show (let q := (if Kp379.isSelf h.world s = false ∨ Kp379.isPlace h.world p = false then Kp381.say (-2) else if 1 < kd ∨ Kp381.okSteps k = false then Kp381.say (-22) else Kp381.yes (Kp381.kept h.world ⟨kd, s, p, 0, k, 0⟩) : Kp381.Ans); q.num :: q.nums) = holdsOut h kd s p k
  unfold holdsOut
  by_cases c : Kp379.isSelf h.world s = false ∨ Kp379.isPlace h.world p = false
  · rw [if_pos c, if_pos (two_bad.mp c)]
    rfl
  · rw [if_neg c, if_neg (fun z => c (two_bad.mpr z)), okSteps_is]
    have e1 : (1 < kd ∨ (decide (1 ≤ k) && decide (k ≤ 4)) = false) ↔ (decide (1 < kd) || !(decide (1 ≤ k) && decide (k ≤ 4))) = true := by
      rw [Bool.or_eq_true, decide_eq_true_iff, Bool.not_eq_true']
    by_cases d : 1 < kd ∨ (decide (1 ≤ k) && decide (k ≤ 4)) = false
    · rw [if_pos d, if_pos (e1.mp d)]
      rfl
    · rw [if_neg d, if_neg (fun z => d (e1.mpr z))]
      rfl
/-- before a begin -/
theorem ns_none {num : Nat} {gs : List Int} (h0 : num < 26) (h1 : num ≠ 0) (hf : PyKp381.fits [(num : Int) :: gs] = true) : Ns none [(num : Int) :: gs] = (none, [-11]) := by
  match num, h0, h1, hf with
  | 1, _, _, hf => obtain ⟨a, r, rfl, _⟩ := in1 hf; rfl
  | 2, _, _, hf => obtain ⟨a, b, rfl⟩ := in2 hf; rfl
  | 3, _, _, hf => obtain ⟨a, b, c, rfl⟩ := in3 hf; rfl
  | 4, _, _, hf => obtain ⟨a, b, c, rfl⟩ := in4 hf; rfl
  | 5, _, _, hf => obtain ⟨a, rfl⟩ := in5 hf; rfl
  | 6, _, _, hf => obtain ⟨a, b, c, rfl⟩ := in6 hf; rfl
  | 7, _, _, hf => rw [in7 hf]; rfl
  | 8, _, _, hf => obtain ⟨a, b, c, d, rfl⟩ := in8 hf; rfl
  | 9, _, _, hf => obtain ⟨a, b, c, d, rfl⟩ := in9 hf; rfl
  | 10, _, _, hf => obtain ⟨a, b, c, d, e, rfl⟩ := in10 hf; rfl
  | 11, _, _, hf => rw [in11 hf]; rfl
  | 12, _, _, hf => obtain ⟨a, b, rfl⟩ := in12 hf; rfl
  | 13, _, _, hf => obtain ⟨a, b, rfl⟩ := in13 hf; rfl
  | 14, _, _, hf => obtain ⟨a, l, rfl, _⟩ := in14 hf; rfl
  | 15, _, _, hf => obtain ⟨a, rfl⟩ := in15 hf; rfl
  | 16, _, _, hf => rw [in16 hf]; rfl
  | 17, _, _, hf => rw [in17 hf]; rfl
  | 18, _, _, hf => obtain ⟨a, rfl⟩ := in18 hf; rfl
  | 19, _, _, hf => obtain ⟨a, b, rfl⟩ := in19 hf; rfl
  | 20, _, _, hf => obtain ⟨a, b, c, rfl⟩ := in20 hf; rfl
  | 21, _, _, hf => obtain ⟨a, b, c, d, r, rfl, _⟩ := in21 hf; rfl
  | 22, _, _, hf => obtain ⟨a, rfl⟩ := in22 hf; rfl
  | 23, _, _, hf => obtain ⟨a, rfl⟩ := in23 hf; rfl
  | 24, _, _, hf => obtain ⟨a, b, c, d, rfl⟩ := in24 hf; rfl
  | 25, _, _, hf => rw [in25 hf]; rfl
end
end CI
/-! A call is passed on by its number. -/
namespace CI
open PySem PySem.Spec PyProof.Rows L2
open Evl (Ex fresh_back Ev EvT EvA EvL)
open Kp379 (Stand)
theorem StAt.has {n : Nm} {X : List Addr} {st : Kp381.State} {ph : Addr} {S : List Addr} {H : Hp} (a : StAt n X st ph S H) {q : Addr} (hq : H q = none) : q ∉ S := by
  cases st with
  | none =>
    obtain ⟨_, rfl, dx, ao, so, lo, po, h1⟩ := a
    intro m
    have : q = ph := by simpa using m
    rw [this, h1] at hq
    cases hq
  | some h =>
    obtain ⟨_, dx, ao, so, lo, po, vas, vlog, vps, rfl, h1⟩ := a
    exact h1.has hq
section
variable {P : Program} {w : World} {K : PySem.W.Frag} {mg : Str → Option Value} {base : Heap} {n : Nm}
def sp_disp (n : Nm) (lo hi : Nat) : Sp := fun vs H Q _ => ∃ (X : List Addr) (ph : Addr) (S : List Addr) (h : Kp381.House) (num : Nat) (gs : List Int) (pg : Addr), vs = [.ref ph, .int (num : Int), .ref pg] ∧ H pg = some (.lst (gs.map V.int)) ∧ lo ≤ num ∧ num ≤ hi ∧ PyKp381.fits [(num : Int) :: gs] = true ∧
  StAt n X (some h) ph S H ∧ Told n X (Ns (some h) [(num : Int) :: gs]).1 (Ns (some h) [(num : Int) :: gs]).2 ph S H Q
/-! ### the changes -/
def sp_answer_change (n : Nm) : Sp := fun vs H Q _ => ∃ (X : List Addr) (ph : Addr) (S : List Addr) (st : Kp381.State) (num : Nat) (gs : List Int) (pg : Addr), vs = [.ref ph, .int (num : Int), .ref pg] ∧ H pg = some (.lst (gs.map V.int)) ∧ num ≤ 5 ∧ (num = 0 ∨ ∃ h, st = some h) ∧ PyKp381.fits [(num : Int) :: gs] = true ∧
  StAt n X st ph S H ∧ Told n X (Ns st [(num : Int) :: gs]).1 (Ns st [(num : Int) :: gs]).2 ph S H Q
theorem ok_answer_change (D : Ds n K mg) : FnOk P w K mg base CX0 13 n.f_answer_change n.fd_answer_change P_answer_change (sp_answer_change n) := by
  have G_begin := ok_begin (P := P) (w := w) (base := base) D
  have G_put_act := ok_put_act (P := P) (w := w) (base := base) D
  have G_take_act := ok_take_act (P := P) (w := w) (base := base) D
  have G_set_turn := ok_set_turn (P := P) (w := w) (base := base) D
  have G_set_lock := ok_set_lock (P := P) (w := w) (base := base) D
  have G_add_twins := ok_add_twins (P := P) (w := w) (base := base) D
  refine D.d_answer_change.F.ok sc_answer_change (fun vs H Q E h => ?_) (fun cdv A outer sh H vs Q E hr h => ?_)
  · obtain ⟨X, ph, S, st, num, gs, pg, rfl, _⟩ := h
    rfl
  · obtain ⟨X, ph, S, st, num, gs, pg, rfl, hpg, hhi, hst, hf, hS, kQ⟩ := h
    refine ⟨_, (pss_cons (ps_if (pt_cmpR op_eq (pv 1) (pe_const rfl D.g_BEGIN) (nomark _))
        (pss_one (ps_ret (pe_call G_begin (hr.mono (by decide)) rfl D.d_begin.g D.d_begin.F.kp D.d_begin.b .nil pass0 (pa_cons (pv 0) (pa_cons (pe_ix ix_list (pv 2) pe_int (fun _ _ => rfl)) (pa_cons (pe_ix ix_list (pv 2) pe_int (fun _ _ => rfl)) pa_nil))))))
        pss_nil)
      (pss_cons (ps_if (pt_cmpR op_eq (pv 1) (pe_const rfl D.g_ACT) (nomark _))
        (pss_one (ps_ret (pe_call G_put_act (hr.mono (by decide)) rfl D.d_put_act.g D.d_put_act.F.kp D.d_put_act.b .nil pass0 (pa_cons (pv 0) (pa_cons (pe_ix ix_list (pv 2) pe_int (fun _ _ => rfl)) (pa_cons (pe_slice sl_list (pv 2) (po_some pe_int) po_none) pa_nil))))))
        pss_nil)
      (pss_cons (ps_if (pt_cmpR op_eq (pv 1) (pe_const rfl D.g_UNACT) (nomark _))
        (pss_one (ps_ret (pe_call G_take_act (hr.mono (by decide)) rfl D.d_take_act.g D.d_take_act.F.kp D.d_take_act.b .nil pass0 (pa_cons (pv 0) (pa_cons (pe_ix ix_list (pv 2) pe_int (fun _ _ => rfl)) (pa_cons (pe_ix ix_list (pv 2) pe_int (fun _ _ => rfl)) pa_nil))))))
        pss_nil)
      (pss_cons (ps_if (pt_cmpR op_eq (pv 1) (pe_const rfl D.g_TURN) (nomark _))
        (pss_one (ps_ret (pe_call G_set_turn (hr.mono (by decide)) rfl D.d_set_turn.g D.d_set_turn.F.kp D.d_set_turn.b .nil pass0 (pa_cons (pv 0) (pa_cons (pe_ix ix_list (pv 2) pe_int (fun _ _ => rfl)) (pa_cons (pe_ix ix_list (pv 2) pe_int (fun _ _ => rfl)) (pa_cons (pe_ix ix_list (pv 2) pe_int (fun _ _ => rfl)) pa_nil)))))))
        pss_nil)
      (pss_cons (ps_if (pt_cmpR op_eq (pv 1) (pe_const rfl D.g_LOCK) (nomark _))
        (pss_one (ps_ret (pe_call G_set_lock (hr.mono (by decide)) rfl D.d_set_lock.g D.d_set_lock.F.kp D.d_set_lock.b .nil pass0 (pa_cons (pv 0) (pa_cons (pe_ix ix_list (pv 2) pe_int (fun _ _ => rfl)) (pa_cons (pe_ix ix_list (pv 2) pe_int (fun _ _ => rfl)) (pa_cons (pe_ix ix_list (pv 2) pe_int (fun _ _ => rfl)) pa_nil)))))))
        pss_nil)
      (pss_one (ps_ret (pe_call G_add_twins (hr.mono (by decide)) rfl D.d_add_twins.g D.d_add_twins.F.kp D.d_add_twins.b .nil pass0 (pa_cons (pv 0) (pa_cons (pe_ix ix_list (pv 2) pe_int (fun _ _ => rfl)) pa_nil)))))))))), ?_⟩
    by_cases c0 : num = 0
    · subst c0
      obtain ⟨x, y, rfl⟩ := in0 hf
      rw [ns_begin st x y] at kQ
      refine ⟨_, rfl, rfl, _, rfl, if_t rfl ?_⟩
      exact ⟨_, rfl, _, rfl, pg, _, _, _, rfl, rfl, sqL hpg, atI_nat (j := 0) rfl, _, rfl, pg, _, _, _, rfl, rfl, sqL hpg, atI_nat (j := 1) rfl, X, ph, S, st, x, y, rfl, hS, kQ⟩
    · obtain ⟨h, rfl⟩ : ∃ h, st = some h := hst.resolve_left c0
      have hS' := hS
      obtain ⟨off, dx, ao, so, lo, po, vas, vlog, vps, eS, a⟩ := hS'
      have hn : num = 1 ∨ num = 2 ∨ num = 3 ∨ num = 4 ∨ num = 5 := by omega
      rcases hn with rfl | rfl | rfl | rfl | rfl
      · obtain ⟨x, row, rfl, hlen⟩ := in1 hf
        rw [ns_act (h := h) x row] at kQ
        refine ⟨_, rfl, rfl, _, rfl, if_f rfl ?_⟩
        refine ⟨_, rfl, rfl, _, rfl, if_t rfl ?_⟩
        refine ⟨_, rfl, _, rfl, pg, _, _, _, rfl, rfl, sqL hpg, atI_nat (j := 0) rfl, _, rfl, _, rfl, pg, _, rfl, sqL hpg, fun q hq => ?_⟩
        have ec : cutV (V.int (x : Int) :: row.map V.int) (some (1 : Int)) none = row.map V.int := cut_from _ 1
        have hq9 : (upd H q (.lst (cutV (V.int (x : Int) :: row.map V.int) (some (1 : Int)) none))) q = some (.lst (row.map V.int)) := by rw [upd_same, ec]
        have eq : Ex H (upd H q (.lst (cutV (V.int (x : Int) :: row.map V.int) (some (1 : Int)) none))) := Evl.Ex.new hq
        exact ⟨X, ph, q, S, h, x, row, rfl, hq9, by omega, hS.mono eq, kQ.grow eq⟩
      · obtain ⟨x, y, rfl⟩ := in2 hf
        rw [ns_unact (h := h) x y] at kQ
        refine ⟨_, rfl, rfl, _, rfl, if_f rfl ?_⟩
        refine ⟨_, rfl, rfl, _, rfl, if_f rfl ?_⟩
        refine ⟨_, rfl, rfl, _, rfl, if_t rfl ?_⟩
        exact ⟨_, rfl, _, rfl, pg, _, _, _, rfl, rfl, sqL hpg, atI_nat (j := 0) rfl, _, rfl, pg, _, _, _, rfl, rfl, sqL hpg, atI_nat (j := 1) rfl, X, ph, S, h, x, y, rfl, hS, kQ⟩
      · obtain ⟨x, y, z, rfl⟩ := in3 hf
        rw [ns_turn (h := h) x y z] at kQ
        refine ⟨_, rfl, rfl, _, rfl, if_f rfl ?_⟩
        refine ⟨_, rfl, rfl, _, rfl, if_f rfl ?_⟩
        refine ⟨_, rfl, rfl, _, rfl, if_f rfl ?_⟩
        refine ⟨_, rfl, rfl, _, rfl, if_t rfl ?_⟩
        exact ⟨_, rfl, _, rfl, pg, _, _, _, rfl, rfl, sqL hpg, atI_nat (j := 0) rfl, _, rfl, pg, _, _, _, rfl, rfl, sqL hpg, atI_nat (j := 1) rfl, _, rfl, pg, _, _, _, rfl, rfl, sqL hpg, atI_nat (j := 2) rfl, X, ph, S, h, x, y, z, rfl, hS, kQ⟩
      · obtain ⟨x, y, z, rfl⟩ := in4 hf
        rw [ns_lock (h := h) x y z] at kQ
        refine ⟨_, rfl, rfl, _, rfl, if_f rfl ?_⟩
        refine ⟨_, rfl, rfl, _, rfl, if_f rfl ?_⟩
        refine ⟨_, rfl, rfl, _, rfl, if_f rfl ?_⟩
        refine ⟨_, rfl, rfl, _, rfl, if_f rfl ?_⟩
        refine ⟨_, rfl, rfl, _, rfl, if_t rfl ?_⟩
        exact ⟨_, rfl, _, rfl, pg, _, _, _, rfl, rfl, sqL hpg, atI_nat (j := 0) rfl, _, rfl, pg, _, _, _, rfl, rfl, sqL hpg, atI_nat (j := 1) rfl, _, rfl, pg, _, _, _, rfl, rfl, sqL hpg, atI_nat (j := 2) rfl, X, ph, S, h, x, y, z, rfl, hS, kQ⟩
      · obtain ⟨x, rfl⟩ := in5 hf
        rw [ns_addTwins a.ww x] at kQ
        refine ⟨_, rfl, rfl, _, rfl, if_f rfl ?_⟩
        refine ⟨_, rfl, rfl, _, rfl, if_f rfl ?_⟩
        refine ⟨_, rfl, rfl, _, rfl, if_f rfl ?_⟩
        refine ⟨_, rfl, rfl, _, rfl, if_f rfl ?_⟩
        refine ⟨_, rfl, rfl, _, rfl, if_f rfl ?_⟩
        exact ⟨_, rfl, _, rfl, pg, _, _, _, rfl, rfl, sqL hpg, atI_nat (j := 0) rfl, X, ph, S, h, x, rfl, hS, kQ⟩
/-! ### the others -/
theorem ok_answer_question (D : Ds n K mg) : FnOk P w K mg base CX0 12 n.f_answer_question n.fd_answer_question P_answer_question (sp_disp n 6 11) := by
  have G_put_helper := ok_put_helper (P := P) (w := w) (base := base) D
  have G_tell_stand := ok_tell_stand (P := P) (w := w) (base := base) D
  have G_tell_act := ok_tell_act (P := P) (w := w) (base := base) D
  have G_tell_lights := ok_tell_lights (P := P) (w := w) (base := base) D
  have G_tell_cost := ok_tell_cost (P := P) (w := w) (base := base) D
  have G_tell_lonely := ok_tell_lonely (P := P) (w := w) (base := base) D
  refine D.d_answer_question.F.ok sc_answer_question (fun vs H Q E h => ?_) (fun cdv A outer sh H vs Q E hr h => ?_)
  · obtain ⟨X, ph, S, h, num, gs, pg, rfl, _⟩ := h
    rfl
  · obtain ⟨X, ph, S, h, num, gs, pg, rfl, hpg, hlo, hhi, hf, hS, kQ⟩ := h
    refine ⟨_, (pss_cons (ps_if (pt_cmpR op_eq (pv 1) (pe_const rfl D.g_STAND) (nomark _))
        (pss_one (ps_ret (pe_call G_put_helper (hr.mono (by decide)) rfl D.d_put_helper.g D.d_put_helper.F.kp D.d_put_helper.b .nil pass0 (pa_cons (pv 0) (pa_cons (pe_ix ix_list (pv 2) pe_int (fun _ _ => rfl)) (pa_cons (pe_ix ix_list (pv 2) pe_int (fun _ _ => rfl)) (pa_cons (pe_ix ix_list (pv 2) pe_int (fun _ _ => rfl)) pa_nil)))))))
        pss_nil)
      (pss_cons (ps_if (pt_cmpR op_eq (pv 1) (pe_const rfl D.g_WHO) (nomark _))
        (pss_one (ps_ret (pe_call G_tell_stand (hr.mono (by decide)) rfl D.d_tell_stand.g D.d_tell_stand.F.kp D.d_tell_stand.b .nil pass0 (pa_cons (pv 0) pa_nil))))
        pss_nil)
      (pss_cons (ps_if (pt_cmpR op_eq (pv 1) (pe_const rfl D.g_DOES) (nomark _))
        (pss_one (ps_ret (pe_call G_tell_act (hr.mono (by decide)) rfl D.d_tell_act.g D.d_tell_act.F.kp D.d_tell_act.b .nil pass0 (pa_cons (pv 0) (pa_cons (pe_ix ix_list (pv 2) pe_int (fun _ _ => rfl)) (pa_cons (pe_ix ix_list (pv 2) pe_int (fun _ _ => rfl)) (pa_cons (pe_ix ix_list (pv 2) pe_int (fun _ _ => rfl)) (pa_cons (pe_ix ix_list (pv 2) pe_int (fun _ _ => rfl)) pa_nil))))))))
        pss_nil)
      (pss_cons (ps_if (pt_cmpR op_eq (pv 1) (pe_const rfl D.g_LIGHTS) (nomark _))
        (pss_one (ps_ret (pe_call G_tell_lights (hr.mono (by decide)) rfl D.d_tell_lights.g D.d_tell_lights.F.kp D.d_tell_lights.b .nil pass0 (pa_cons (pv 0) (pa_cons (pe_ix ix_list (pv 2) pe_int (fun _ _ => rfl)) (pa_cons (pe_ix ix_list (pv 2) pe_int (fun _ _ => rfl)) (pa_cons (pe_ix ix_list (pv 2) pe_int (fun _ _ => rfl)) (pa_cons (pe_ix ix_list (pv 2) pe_int (fun _ _ => rfl)) pa_nil))))))))
        pss_nil)
      (pss_cons (ps_if (pt_cmpR op_eq (pv 1) (pe_const rfl D.g_COST) (nomark _))
        (pss_one (ps_ret (pe_call G_tell_cost (hr.mono (by decide)) rfl D.d_tell_cost.g D.d_tell_cost.F.kp D.d_tell_cost.b .nil pass0 (pa_cons (pv 0) (pa_cons (pe_ix ix_list (pv 2) pe_int (fun _ _ => rfl)) (pa_cons (pe_ix ix_list (pv 2) pe_int (fun _ _ => rfl)) (pa_cons (pe_ix ix_list (pv 2) pe_int (fun _ _ => rfl)) (pa_cons (pe_ix ix_list (pv 2) pe_int (fun _ _ => rfl)) (pa_cons (pe_ix ix_list (pv 2) pe_int (fun _ _ => rfl)) pa_nil)))))))))
        pss_nil)
      (pss_one (ps_ret (pe_call G_tell_lonely (hr.mono (by decide)) rfl D.d_tell_lonely.g D.d_tell_lonely.F.kp D.d_tell_lonely.b .nil pass0 (pa_cons (pv 0) pa_nil))))))))), ?_⟩
    have hS' := hS
    obtain ⟨off, dx, ao, so, lo, po, vas, vlog, vps, eS, a⟩ := hS'
    obtain ⟨so', h0, hso⟩ := a.stand
    cases h0
    have off : Off X [ph, ao, lo, po] H := by rw [← eS]; exact off
    have hn : num = 6 ∨ num = 7 ∨ num = 8 ∨ num = 9 ∨ num = 10 ∨ num = 11 := by omega
    rcases hn with rfl | rfl | rfl | rfl | rfl | rfl
    · obtain ⟨x, y, z, rfl⟩ := in6 hf
      rw [ns_stand (h := h) x y z] at kQ
      refine ⟨_, rfl, rfl, _, rfl, if_t rfl ?_⟩
      exact ⟨_, rfl, _, rfl, pg, _, _, _, rfl, rfl, sqL hpg, atI_nat (j := 0) rfl, _, rfl, pg, _, _, _, rfl, rfl, sqL hpg, atI_nat (j := 1) rfl, _, rfl, pg, _, _, _, rfl, rfl, sqL hpg, atI_nat (j := 2) rfl, X, ph, S, h, x, y, z, rfl, hS, kQ⟩
    · obtain rfl := in7 hf
      rw [ns_who (h := h)] at kQ
      refine ⟨_, rfl, rfl, _, rfl, if_f rfl ?_⟩
      refine ⟨_, rfl, rfl, _, rfl, if_t rfl ?_⟩
      exact ⟨_, rfl, ph, dx, so, _, h.now, rfl, a.hp, houseF_stand, hso, kQ.pure hS⟩
    · obtain ⟨x, y, z, t, rfl⟩ := in8 hf
      rw [ns_does (h := h) x y z t] at kQ
      refine ⟨_, rfl, rfl, _, rfl, if_f rfl ?_⟩
      refine ⟨_, rfl, rfl, _, rfl, if_f rfl ?_⟩
      refine ⟨_, rfl, rfl, _, rfl, if_t rfl ?_⟩
      exact ⟨_, rfl, _, rfl, pg, _, _, _, rfl, rfl, sqL hpg, atI_nat (j := 0) rfl, _, rfl, pg, _, _, _, rfl, rfl, sqL hpg, atI_nat (j := 1) rfl, _, rfl, pg, _, _, _, rfl, rfl, sqL hpg, atI_nat (j := 2) rfl, _, rfl, pg, _, _, _, rfl, rfl, sqL hpg, atI_nat (j := 3) rfl, _, h.world, x, y, z, t, rfl, a.read, a.ww, kQ.pure hS⟩
    · obtain ⟨x, y, z, t, rfl⟩ := in9 hf
      rw [ns_lights (h := h) x y z t] at kQ
      refine ⟨_, rfl, rfl, _, rfl, if_f rfl ?_⟩
      refine ⟨_, rfl, rfl, _, rfl, if_f rfl ?_⟩
      refine ⟨_, rfl, rfl, _, rfl, if_f rfl ?_⟩
      refine ⟨_, rfl, rfl, _, rfl, if_t rfl ?_⟩
      exact ⟨_, rfl, _, rfl, pg, _, _, _, rfl, rfl, sqL hpg, atI_nat (j := 0) rfl, _, rfl, pg, _, _, _, rfl, rfl, sqL hpg, atI_nat (j := 1) rfl, _, rfl, pg, _, _, _, rfl, rfl, sqL hpg, atI_nat (j := 2) rfl, _, rfl, pg, _, _, _, rfl, rfl, sqL hpg, atI_nat (j := 3) rfl, _, h.world, x, y, z, t, rfl, a.read, a.ww, kQ.pure hS⟩
    · obtain ⟨x, y, z, t, u, rfl⟩ := in10 hf
      rw [ns_cost (h := h) x y z t u] at kQ
      refine ⟨_, rfl, rfl, _, rfl, if_f rfl ?_⟩
      refine ⟨_, rfl, rfl, _, rfl, if_f rfl ?_⟩
      refine ⟨_, rfl, rfl, _, rfl, if_f rfl ?_⟩
      refine ⟨_, rfl, rfl, _, rfl, if_f rfl ?_⟩
      refine ⟨_, rfl, rfl, _, rfl, if_t rfl ?_⟩
      exact ⟨_, rfl, _, rfl, pg, _, _, _, rfl, rfl, sqL hpg, atI_nat (j := 0) rfl, _, rfl, pg, _, _, _, rfl, rfl, sqL hpg, atI_nat (j := 1) rfl, _, rfl, pg, _, _, _, rfl, rfl, sqL hpg, atI_nat (j := 2) rfl, _, rfl, pg, _, _, _, rfl, rfl, sqL hpg, atI_nat (j := 3) rfl, _, rfl, pg, _, _, _, rfl, rfl, sqL hpg, atI_nat (j := 4) rfl, _, h.world, x, y, z, t, u, rfl, a.read, a.ww, kQ.pure hS⟩
    · obtain rfl := in11 hf
      rw [ns_lonely (h := h)] at kQ
      refine ⟨_, rfl, rfl, _, rfl, if_f rfl ?_⟩
      refine ⟨_, rfl, rfl, _, rfl, if_f rfl ?_⟩
      refine ⟨_, rfl, rfl, _, rfl, if_f rfl ?_⟩
      refine ⟨_, rfl, rfl, _, rfl, if_f rfl ?_⟩
      refine ⟨_, rfl, rfl, _, rfl, if_f rfl ?_⟩
      exact ⟨_, rfl, _, h.world, rfl, a.read, a.ww, kQ.pure hS⟩
theorem ok_answer_going (D : Ds n K mg) : FnOk P w K mg base CX0 12 n.f_answer_going n.fd_answer_going P_answer_going (sp_disp n 12 14) := by
  have G_go := ok_go (P := P) (w := w) (base := base) D
  have G_tell_ahead := ok_tell_ahead (P := P) (w := w) (base := base) D
  have G_run := ok_run (P := P) (w := w) (base := base) D
  refine D.d_answer_going.F.ok sc_answer_going (fun vs H Q E h => ?_) (fun cdv A outer sh H vs Q E hr h => ?_)
  · obtain ⟨X, ph, S, h, num, gs, pg, rfl, _⟩ := h
    rfl
  · obtain ⟨X, ph, S, h, num, gs, pg, rfl, hpg, hlo, hhi, hf, hS, kQ⟩ := h
    refine ⟨_, (pss_cons (ps_if (pt_cmpR op_eq (pv 1) (pe_const rfl D.g_GO) (nomark _))
        (pss_one (ps_ret (pe_call G_go (hr.mono (by decide)) rfl D.d_go.g D.d_go.F.kp D.d_go.b .nil pass0 (pa_cons (pv 0) (pa_cons (pe_ix ix_list (pv 2) pe_int (fun _ _ => rfl)) (pa_cons (pe_ix ix_list (pv 2) pe_int (fun _ _ => rfl)) pa_nil))))))
        pss_nil)
      (pss_cons (ps_if (pt_cmpR op_eq (pv 1) (pe_const rfl D.g_IFGO) (nomark _))
        (pss_one (ps_ret (pe_call G_tell_ahead (hr.mono (by decide)) rfl D.d_tell_ahead.g D.d_tell_ahead.F.kp D.d_tell_ahead.b .nil pass0 (pa_cons (pv 0) (pa_cons (pe_ix ix_list (pv 2) pe_int (fun _ _ => rfl)) (pa_cons (pe_ix ix_list (pv 2) pe_int (fun _ _ => rfl)) pa_nil))))))
        pss_nil)
      (pss_one (ps_ret (pe_call G_run (hr.mono (by decide)) rfl D.d_run.g D.d_run.F.kp D.d_run.b .nil pass0 (pa_cons (pv 0) (pa_cons (pe_ix ix_list (pv 2) pe_int (fun _ _ => rfl)) (pa_cons (pe_slice sl_list (pv 2) (po_some pe_int) po_none) pa_nil)))))))), ?_⟩
    have hS' := hS
    obtain ⟨off, dx, ao, so, lo, po, vas, vlog, vps, eS, a⟩ := hS'
    obtain ⟨so', h0, hso⟩ := a.stand
    cases h0
    have off : Off X [ph, ao, lo, po] H := by rw [← eS]; exact off
    have hn : num = 12 ∨ num = 13 ∨ num = 14 := by omega
    rcases hn with rfl | rfl | rfl
    · obtain ⟨x, y, rfl⟩ := in12 hf
      rw [ns_go a.ll x y] at kQ
      refine ⟨_, rfl, rfl, _, rfl, if_t rfl ?_⟩
      exact ⟨_, rfl, _, rfl, pg, _, _, _, rfl, rfl, sqL hpg, atI_nat (j := 0) rfl, _, rfl, pg, _, _, _, rfl, rfl, sqL hpg, atI_nat (j := 1) rfl, X, ph, S, h, x, y, rfl, hS, kQ⟩
    · obtain ⟨x, y, rfl⟩ := in13 hf
      rw [ns_ifGo (h := h) x y] at kQ
      refine ⟨_, rfl, rfl, _, rfl, if_f rfl ?_⟩
      refine ⟨_, rfl, rfl, _, rfl, if_t rfl ?_⟩
      exact ⟨_, rfl, _, rfl, pg, _, _, _, rfl, rfl, sqL hpg, atI_nat (j := 0) rfl, _, rfl, pg, _, _, _, rfl, rfl, sqL hpg, atI_nat (j := 1) rfl, X, ph, dx, ao, so, lo, po, vas, vlog, vps, h, x, y, rfl, off, a, kQ.pure hS⟩
    · obtain ⟨x, row, rfl, hlen⟩ := in14 hf
      rw [ns_run (h := h) x row] at kQ
      refine ⟨_, rfl, rfl, _, rfl, if_f rfl ?_⟩
      refine ⟨_, rfl, rfl, _, rfl, if_f rfl ?_⟩
      refine ⟨_, rfl, _, rfl, pg, _, _, _, rfl, rfl, sqL hpg, atI_nat (j := 0) rfl, _, rfl, _, rfl, pg, _, rfl, sqL hpg, fun q hq => ?_⟩
      have ec : cutV (V.int (x : Int) :: (row.map fun (m : Nat) => (m : Int)).map V.int) (some (1 : Int)) none = (row.map fun (m : Nat) => (m : Int)).map V.int := cut_from _ 1
      have hq9 : (upd H q (.lst (cutV (V.int (x : Int) :: (row.map fun (m : Nat) => (m : Int)).map V.int) (some (1 : Int)) none))) q = some (.lst ((row.map fun (m : Nat) => (m : Int)).map V.int)) := by rw [upd_same, ec]
      have eq : Ex H (upd H q (.lst (cutV (V.int (x : Int) :: (row.map fun (m : Nat) => (m : Int)).map V.int) (some (1 : Int)) none))) := Evl.Ex.new hq
      exact ⟨X, ph, q, S, h, x, row, rfl, hq9, hS.has hq, by omega, hS.mono eq, kQ.grow eq⟩
theorem ok_answer_telling (D : Ds n K mg) : FnOk P w K mg base CX0 12 n.f_answer_telling n.fd_answer_telling P_answer_telling (sp_disp n 15 18) := by
  have G_tell_entry := ok_tell_entry (P := P) (w := w) (base := base) D
  have G_tell_paid := ok_tell_paid (P := P) (w := w) (base := base) D
  have G_tell_became := ok_tell_became (P := P) (w := w) (base := base) D
  have G_tell_still := ok_tell_still (P := P) (w := w) (base := base) D
  refine D.d_answer_telling.F.ok sc_answer_telling (fun vs H Q E h => ?_) (fun cdv A outer sh H vs Q E hr h => ?_)
  · obtain ⟨X, ph, S, h, num, gs, pg, rfl, _⟩ := h
    rfl
  · obtain ⟨X, ph, S, h, num, gs, pg, rfl, hpg, hlo, hhi, hf, hS, kQ⟩ := h
    refine ⟨_, (pss_cons (ps_if (pt_cmpR op_eq (pv 1) (pe_const rfl D.g_ENTRY) (nomark _))
        (pss_one (ps_ret (pe_call G_tell_entry (hr.mono (by decide)) rfl D.d_tell_entry.g D.d_tell_entry.F.kp D.d_tell_entry.b .nil pass0 (pa_cons (pv 0) (pa_cons (pe_ix ix_list (pv 2) pe_int (fun _ _ => rfl)) pa_nil)))))
        pss_nil)
      (pss_cons (ps_if (pt_cmpR op_eq (pv 1) (pe_const rfl D.g_PAID) (nomark _))
        (pss_one (ps_ret (pe_call G_tell_paid (hr.mono (by decide)) rfl D.d_tell_paid.g D.d_tell_paid.F.kp D.d_tell_paid.b .nil pass0 (pa_cons (pv 0) pa_nil))))
        pss_nil)
      (pss_cons (ps_if (pt_cmpR op_eq (pv 1) (pe_const rfl D.g_BECAME) (nomark _))
        (pss_one (ps_ret (pe_call G_tell_became (hr.mono (by decide)) rfl D.d_tell_became.g D.d_tell_became.F.kp D.d_tell_became.b .nil pass0 (pa_cons (pv 0) pa_nil))))
        pss_nil)
      (pss_one (ps_ret (pe_call G_tell_still (hr.mono (by decide)) rfl D.d_tell_still.g D.d_tell_still.F.kp D.d_tell_still.b .nil pass0 (pa_cons (pv 0) (pa_cons (pe_ix ix_list (pv 2) pe_int (fun _ _ => rfl)) pa_nil)))))))), ?_⟩
    have hS' := hS
    obtain ⟨off, dx, ao, so, lo, po, vas, vlog, vps, eS, a⟩ := hS'
    obtain ⟨so', h0, hso⟩ := a.stand
    cases h0
    have off : Off X [ph, ao, lo, po] H := by rw [← eS]; exact off
    have hn : num = 15 ∨ num = 16 ∨ num = 17 ∨ num = 18 := by omega
    rcases hn with rfl | rfl | rfl | rfl
    · obtain ⟨x, rfl⟩ := in15 hf
      rw [ns_entry (h := h) x] at kQ
      refine ⟨_, rfl, rfl, _, rfl, if_t rfl ?_⟩
      exact ⟨_, rfl, _, rfl, pg, _, _, _, rfl, rfl, sqL hpg, atI_nat (j := 0) rfl, X, ph, dx, ao, so, lo, po, vas, vlog, vps, h, x, rfl, a, kQ.pure hS⟩
    · obtain rfl := in16 hf
      rw [ns_paid (h := h)] at kQ
      refine ⟨_, rfl, rfl, _, rfl, if_f rfl ?_⟩
      refine ⟨_, rfl, rfl, _, rfl, if_t rfl ?_⟩
      exact ⟨_, rfl, X, ph, dx, ao, so, lo, po, vas, vlog, vps, h, rfl, a, kQ.pure hS⟩
    · obtain rfl := in17 hf
      rw [ns_became (h := h)] at kQ
      refine ⟨_, rfl, rfl, _, rfl, if_f rfl ?_⟩
      refine ⟨_, rfl, rfl, _, rfl, if_f rfl ?_⟩
      refine ⟨_, rfl, rfl, _, rfl, if_t rfl ?_⟩
      exact ⟨_, rfl, X, ph, dx, ao, so, lo, po, vas, vlog, vps, h, rfl, a, kQ.pure hS⟩
    · obtain ⟨x, rfl⟩ := in18 hf
      rw [ns_still (h := h) x] at kQ
      refine ⟨_, rfl, rfl, _, rfl, if_f rfl ?_⟩
      refine ⟨_, rfl, rfl, _, rfl, if_f rfl ?_⟩
      refine ⟨_, rfl, rfl, _, rfl, if_f rfl ?_⟩
      exact ⟨_, rfl, _, rfl, pg, _, _, _, rfl, rfl, sqL hpg, atI_nat (j := 0) rfl, X, ph, dx, ao, so, lo, po, vas, vlog, vps, h, x, rfl, a, kQ.pure hS⟩
theorem ok_answer_promising (D : Ds n K mg) : FnOk P w K mg base CX0 13 n.f_answer_promising n.fd_answer_promising P_answer_promising (sp_disp n 19 25) := by
  have G_promise_never := ok_promise_never (P := P) (w := w) (base := base) D
  have G_promise_stay := ok_promise_stay (P := P) (w := w) (base := base) D
  have G_promise_worth := ok_promise_worth (P := P) (w := w) (base := base) D
  have G_tell_promise := ok_tell_promise (P := P) (w := w) (base := base) D
  have G_take_promise := ok_take_promise (P := P) (w := w) (base := base) D
  have G_tell_holds := ok_tell_holds (P := P) (w := w) (base := base) D
  have G_tell_count := ok_tell_count (P := P) (w := w) (base := base) D
  refine D.d_answer_promising.F.ok sc_answer_promising (fun vs H Q E h => ?_) (fun cdv A outer sh H vs Q E hr h => ?_)
  · obtain ⟨X, ph, S, h, num, gs, pg, rfl, _⟩ := h
    rfl
  · obtain ⟨X, ph, S, h, num, gs, pg, rfl, hpg, hlo, hhi, hf, hS, kQ⟩ := h
    refine ⟨_, (pss_cons (ps_if (pt_cmpR op_eq (pv 1) (pe_const rfl D.g_PROMISENEVER) (nomark _))
        (pss_one (ps_ret (pe_call G_promise_never (hr.mono (by decide)) rfl D.d_promise_never.g D.d_promise_never.F.kp D.d_promise_never.b .nil pass0 (pa_cons (pv 0) (pa_cons (pe_ix ix_list (pv 2) pe_int (fun _ _ => rfl)) (pa_cons (pe_ix ix_list (pv 2) pe_int (fun _ _ => rfl)) pa_nil))))))
        pss_nil)
      (pss_cons (ps_if (pt_cmpR op_eq (pv 1) (pe_const rfl D.g_PROMISESTAY) (nomark _))
        (pss_one (ps_ret (pe_call G_promise_stay (hr.mono (by decide)) rfl D.d_promise_stay.g D.d_promise_stay.F.kp D.d_promise_stay.b .nil pass0 (pa_cons (pv 0) (pa_cons (pe_ix ix_list (pv 2) pe_int (fun _ _ => rfl)) (pa_cons (pe_ix ix_list (pv 2) pe_int (fun _ _ => rfl)) (pa_cons (pe_ix ix_list (pv 2) pe_int (fun _ _ => rfl)) pa_nil)))))))
        pss_nil)
      (pss_cons (ps_if (pt_cmpR op_eq (pv 1) (pe_const rfl D.g_PROMISEWORTH) (nomark _))
        (pss_one (ps_ret (pe_call G_promise_worth (hr.mono (by decide)) rfl D.d_promise_worth.g D.d_promise_worth.F.kp D.d_promise_worth.b .nil pass0 (pa_cons (pv 0) (pa_cons (pe_ix ix_list (pv 2) pe_int (fun _ _ => rfl)) (pa_cons (pe_ix ix_list (pv 2) pe_int (fun _ _ => rfl)) (pa_cons (pe_ix ix_list (pv 2) pe_int (fun _ _ => rfl)) (pa_cons (pe_ix ix_list (pv 2) pe_int (fun _ _ => rfl)) (pa_cons (pe_slice sl_list (pv 2) (po_some pe_int) po_none) pa_nil)))))))))
        pss_nil)
      (pss_cons (ps_if (pt_cmpR op_eq (pv 1) (pe_const rfl D.g_PROMISEIS) (nomark _))
        (pss_one (ps_ret (pe_call G_tell_promise (hr.mono (by decide)) rfl D.d_tell_promise.g D.d_tell_promise.F.kp D.d_tell_promise.b .nil pass0 (pa_cons (pv 0) (pa_cons (pe_ix ix_list (pv 2) pe_int (fun _ _ => rfl)) pa_nil)))))
        pss_nil)
      (pss_cons (ps_if (pt_cmpR op_eq (pv 1) (pe_const rfl D.g_UNPROMISE) (nomark _))
        (pss_one (ps_ret (pe_call G_take_promise (hr.mono (by decide)) rfl D.d_take_promise.g D.d_take_promise.F.kp D.d_take_promise.b .nil pass0 (pa_cons (pv 0) (pa_cons (pe_ix ix_list (pv 2) pe_int (fun _ _ => rfl)) pa_nil)))))
        pss_nil)
      (pss_cons (ps_if (pt_cmpR op_eq (pv 1) (pe_const rfl D.g_HOLDS) (nomark _))
        (pss_one (ps_ret (pe_call G_tell_holds (hr.mono (by decide)) rfl D.d_tell_holds.g D.d_tell_holds.F.kp D.d_tell_holds.b .nil pass0 (pa_cons (pv 0) (pa_cons (pe_ix ix_list (pv 2) pe_int (fun _ _ => rfl)) (pa_cons (pe_ix ix_list (pv 2) pe_int (fun _ _ => rfl)) (pa_cons (pe_ix ix_list (pv 2) pe_int (fun _ _ => rfl)) (pa_cons (pe_ix ix_list (pv 2) pe_int (fun _ _ => rfl)) pa_nil))))))))
        pss_nil)
      (pss_one (ps_ret (pe_call G_tell_count (hr.mono (by decide)) rfl D.d_tell_count.g D.d_tell_count.F.kp D.d_tell_count.b .nil pass0 (pa_cons (pv 0) pa_nil)))))))))), ?_⟩
    have hS' := hS
    obtain ⟨off, dx, ao, so, lo, po, vas, vlog, vps, eS, a⟩ := hS'
    obtain ⟨so', h0, hso⟩ := a.stand
    cases h0
    have off : Off X [ph, ao, lo, po] H := by rw [← eS]; exact off
    have hn : num = 19 ∨ num = 20 ∨ num = 21 ∨ num = 22 ∨ num = 23 ∨ num = 24 ∨ num = 25 := by omega
    rcases hn with rfl | rfl | rfl | rfl | rfl | rfl | rfl
    · obtain ⟨x, y, rfl⟩ := in19 hf
      rw [ns_never a.lp x y] at kQ
      refine ⟨_, rfl, rfl, _, rfl, if_t rfl ?_⟩
      exact ⟨_, rfl, _, rfl, pg, _, _, _, rfl, rfl, sqL hpg, atI_nat (j := 0) rfl, _, rfl, pg, _, _, _, rfl, rfl, sqL hpg, atI_nat (j := 1) rfl, X, ph, S, h, x, y, rfl, hS, kQ⟩
    · obtain ⟨x, y, z, rfl⟩ := in20 hf
      rw [ns_stay a.lp x y z] at kQ
      refine ⟨_, rfl, rfl, _, rfl, if_f rfl ?_⟩
      refine ⟨_, rfl, rfl, _, rfl, if_t rfl ?_⟩
      exact ⟨_, rfl, _, rfl, pg, _, _, _, rfl, rfl, sqL hpg, atI_nat (j := 0) rfl, _, rfl, pg, _, _, _, rfl, rfl, sqL hpg, atI_nat (j := 1) rfl, _, rfl, pg, _, _, _, rfl, rfl, sqL hpg, atI_nat (j := 2) rfl, X, ph, S, h, x, y, z, rfl, hS, kQ⟩
    · obtain ⟨x, y, z, t, row, rfl, hlen⟩ := in21 hf
      rw [ns_worth a.lp x y z t row] at kQ
      refine ⟨_, rfl, rfl, _, rfl, if_f rfl ?_⟩
      refine ⟨_, rfl, rfl, _, rfl, if_f rfl ?_⟩
      refine ⟨_, rfl, rfl, _, rfl, if_t rfl ?_⟩
      refine ⟨_, rfl, _, rfl, pg, _, _, _, rfl, rfl, sqL hpg, atI_nat (j := 0) rfl, _, rfl, pg, _, _, _, rfl, rfl, sqL hpg, atI_nat (j := 1) rfl, _, rfl, pg, _, _, _, rfl, rfl, sqL hpg, atI_nat (j := 2) rfl, _, rfl, pg, _, _, _, rfl, rfl, sqL hpg, atI_nat (j := 3) rfl, _, rfl, _, rfl, pg, _, rfl, sqL hpg, fun q hq => ?_⟩
      have ec : cutV (V.int (x : Int) :: V.int (y : Int) :: V.int (z : Int) :: V.int (t : Int) :: row.map V.int) (some (4 : Int)) none = row.map V.int := cut_from _ 4
      have hq9 : (upd H q (.lst (cutV (V.int (x : Int) :: V.int (y : Int) :: V.int (z : Int) :: V.int (t : Int) :: row.map V.int) (some (4 : Int)) none))) q = some (.lst (row.map V.int)) := by rw [upd_same, ec]
      have eq : Ex H (upd H q (.lst (cutV (V.int (x : Int) :: V.int (y : Int) :: V.int (z : Int) :: V.int (t : Int) :: row.map V.int) (some (4 : Int)) none))) := Evl.Ex.new hq
      exact ⟨X, ph, q, S, h, x, y, z, t, row, rfl, hq9, hS.mono eq, kQ.grow eq⟩
    · obtain ⟨x, rfl⟩ := in22 hf
      rw [ns_promiseIs (h := h) x] at kQ
      refine ⟨_, rfl, rfl, _, rfl, if_f rfl ?_⟩
      refine ⟨_, rfl, rfl, _, rfl, if_f rfl ?_⟩
      refine ⟨_, rfl, rfl, _, rfl, if_f rfl ?_⟩
      refine ⟨_, rfl, rfl, _, rfl, if_t rfl ?_⟩
      exact ⟨_, rfl, _, rfl, pg, _, _, _, rfl, rfl, sqL hpg, atI_nat (j := 0) rfl, X, ph, dx, ao, so, lo, po, vas, vlog, vps, h, x, rfl, a, kQ.pure hS⟩
    · obtain ⟨x, rfl⟩ := in23 hf
      rw [ns_unpromise (h := h) x] at kQ
      refine ⟨_, rfl, rfl, _, rfl, if_f rfl ?_⟩
      refine ⟨_, rfl, rfl, _, rfl, if_f rfl ?_⟩
      refine ⟨_, rfl, rfl, _, rfl, if_f rfl ?_⟩
      refine ⟨_, rfl, rfl, _, rfl, if_f rfl ?_⟩
      refine ⟨_, rfl, rfl, _, rfl, if_t rfl ?_⟩
      exact ⟨_, rfl, _, rfl, pg, _, _, _, rfl, rfl, sqL hpg, atI_nat (j := 0) rfl, X, ph, S, h, x, rfl, hS, kQ⟩
    · obtain ⟨x, y, z, t, rfl⟩ := in24 hf
      rw [ns_holds (h := h) x y z t] at kQ
      refine ⟨_, rfl, rfl, _, rfl, if_f rfl ?_⟩
      refine ⟨_, rfl, rfl, _, rfl, if_f rfl ?_⟩
      refine ⟨_, rfl, rfl, _, rfl, if_f rfl ?_⟩
      refine ⟨_, rfl, rfl, _, rfl, if_f rfl ?_⟩
      refine ⟨_, rfl, rfl, _, rfl, if_f rfl ?_⟩
      refine ⟨_, rfl, rfl, _, rfl, if_t rfl ?_⟩
      exact ⟨_, rfl, _, rfl, pg, _, _, _, rfl, rfl, sqL hpg, atI_nat (j := 0) rfl, _, rfl, pg, _, _, _, rfl, rfl, sqL hpg, atI_nat (j := 1) rfl, _, rfl, pg, _, _, _, rfl, rfl, sqL hpg, atI_nat (j := 2) rfl, _, rfl, pg, _, _, _, rfl, rfl, sqL hpg, atI_nat (j := 3) rfl, X, ph, dx, ao, so, lo, po, vas, vlog, vps, h, x, y, z, t, rfl, a, kQ.pure hS⟩
    · obtain rfl := in25 hf
      rw [ns_count (h := h)] at kQ
      refine ⟨_, rfl, rfl, _, rfl, if_f rfl ?_⟩
      refine ⟨_, rfl, rfl, _, rfl, if_f rfl ?_⟩
      refine ⟨_, rfl, rfl, _, rfl, if_f rfl ?_⟩
      refine ⟨_, rfl, rfl, _, rfl, if_f rfl ?_⟩
      refine ⟨_, rfl, rfl, _, rfl, if_f rfl ?_⟩
      refine ⟨_, rfl, rfl, _, rfl, if_f rfl ?_⟩
      exact ⟨_, rfl, X, ph, dx, ao, so, lo, po, vas, vlog, vps, h, rfl, a, kQ.pure hS⟩
/-! ### answer_call -/
theorem ok_answer_call (D : Ds n K mg) : FnOk P w K mg base CX0 14 n.f_answer_call n.fd_answer_call P_answer_call (sp_answer_call n) := by
  have G_is_begun := ok_is_begun (P := P) (w := w) (base := base) D
  have G_answer_change := ok_answer_change (P := P) (w := w) (base := base) D
  have G_answer_question := ok_answer_question (P := P) (w := w) (base := base) D
  have G_answer_going := ok_answer_going (P := P) (w := w) (base := base) D
  have G_answer_telling := ok_answer_telling (P := P) (w := w) (base := base) D
  have G_answer_promising := ok_answer_promising (P := P) (w := w) (base := base) D
  refine D.d_answer_call.F.ok sc_answer_call (fun vs H Q E h => ?_) (fun cdv A outer sh H vs Q E hr h => ?_)
  · obtain ⟨X, ph, S, st, num, gs, pg, rfl, _⟩ := h
    rfl
  · obtain ⟨X, ph, S, st, num, gs, pg, rfl, hpg, hn, hf, hS, kQ⟩ := h
    refine ⟨_, (pss_cons (ps_if (PW.pt (pw_and (pt_cmpR op_ne (pv 1) (pe_const rfl D.g_BEGIN) (nomark _)) (pw_and1 (pt_not (pt_val (pe_call G_is_begun (hr.mono (by decide)) rfl D.d_is_begun.g D.d_is_begun.F.kp D.d_is_begun.b .nil pass0 (pa_cons (pv 0) pa_nil)))))))
        (pss_one (ps_ret (pe_lst (pa_cons (pe_const rfl D.g_NOT_BEGUN) pa_nil))))
        pss_nil)
      (pss_cons (ps_if (pt_cmpR op_le (pv 1) (pe_const rfl D.g_ADDTWINS) (nomark _))
        (pss_one (ps_ret (pe_call G_answer_change (hr.mono (by decide)) rfl D.d_answer_change.g D.d_answer_change.F.kp D.d_answer_change.b .nil pass0 (pa_cons (pv 0) (pa_cons (pv 1) (pa_cons (pv 2) pa_nil))))))
        pss_nil)
      (pss_cons (ps_if (pt_cmpR op_le (pv 1) (pe_const rfl D.g_LONELY) (nomark _))
        (pss_one (ps_ret (pe_call G_answer_question (hr.mono (by decide)) rfl D.d_answer_question.g D.d_answer_question.F.kp D.d_answer_question.b .nil pass0 (pa_cons (pv 0) (pa_cons (pv 1) (pa_cons (pv 2) pa_nil))))))
        pss_nil)
      (pss_cons (ps_if (pt_cmpR op_le (pv 1) (pe_const rfl D.g_RUN) (nomark _))
        (pss_one (ps_ret (pe_call G_answer_going (hr.mono (by decide)) rfl D.d_answer_going.g D.d_answer_going.F.kp D.d_answer_going.b .nil pass0 (pa_cons (pv 0) (pa_cons (pv 1) (pa_cons (pv 2) pa_nil))))))
        pss_nil)
      (pss_cons (ps_if (pt_cmpR op_le (pv 1) (pe_const rfl D.g_STILL) (nomark _))
        (pss_one (ps_ret (pe_call G_answer_telling (hr.mono (by decide)) rfl D.d_answer_telling.g D.d_answer_telling.F.kp D.d_answer_telling.b .nil pass0 (pa_cons (pv 0) (pa_cons (pv 1) (pa_cons (pv 2) pa_nil))))))
        pss_nil)
      (pss_one (ps_ret (pe_call G_answer_promising (hr.mono (by decide)) rfl D.d_answer_promising.g D.d_answer_promising.F.kp D.d_answer_promising.b .nil pass0 (pa_cons (pv 0) (pa_cons (pv 1) (pa_cons (pv 2) pa_nil))))))))))), ?_⟩
    have kQ : Told n X (Ns st [(num : Int) :: gs]).1 (Ns st [(num : Int) :: gs]).2 ph S H Q := kQ
    have e0 : (!decide (V.int (num : Int) = V.int 0)) = !decide (num = 0) := by rw [int_eq (z := 0) (b := 0) rfl]
    refine ⟨_, rfl, rfl, _, rfl, ?_⟩
    by_cases c0 : num = 0
    · refine if_f (by rw [e0, decide_eq_true c0]; rfl) (if_f rfl ?_)
      refine ⟨_, rfl, _, _, rfl, rfl, _, rfl, if_t (decide_eq_true (by omega)) ?_⟩
      exact ⟨_, rfl, _, rfl, _, rfl, X, ph, S, st, num, gs, pg, rfl, hpg, by omega, Or.inl c0, hf, hS, kQ⟩
    · refine if_t (by rw [e0, decide_eq_false c0]; rfl) ?_
      cases st with
      | none =>
        rw [ns_none hn c0 hf] at kQ
        have hS' := hS
        obtain ⟨_, _, dx, ao, so, lo, po, h1⟩ := hS'
        refine ⟨_, rfl, ph, dx, _, 0, rfl, h1, houseF_places, fun vb H1 e1 hb => ?_⟩
        subst hb
        refine ⟨_, rfl, if_t rfl ?_⟩
        exact ret_one ((kQ.pure hS).mono e1)
      | some h =>
        have hS' := hS
        obtain ⟨off, dx, ao, so, lo, po, vas, vlog, vps, eS, a⟩ := hS'
        refine ⟨_, rfl, ph, dx, _, h.world.n, rfl, a.hp, houseF_places, fun vb H1 e1 hb => ?_⟩
        subst hb
        have hn2 := a.ww.n2
        refine ⟨_, rfl, if_f (by rw [decide_eq_true (by omega)]; rfl) ?_⟩
        have hS1 := hS.mono e1
        have kQ1 := kQ.grow e1
        have hpg1 := e1 _ _ hpg
        refine ⟨_, rfl, _, _, rfl, rfl, _, rfl, ?_⟩
        by_cases c1 : num ≤ 5
        · refine if_t (decide_eq_true (by omega)) ?_
          exact ⟨_, rfl, _, rfl, _, rfl, X, ph, S, some h, num, gs, pg, rfl, hpg1, c1, Or.inr ⟨h, rfl⟩, hf, hS1, kQ1⟩
        · refine if_f (decide_eq_false (by omega)) ?_
          refine ⟨_, rfl, _, _, rfl, rfl, _, rfl, ?_⟩
          by_cases c2 : num ≤ 11
          · refine if_t (decide_eq_true (by omega)) ?_
            exact ⟨_, rfl, _, rfl, _, rfl, X, ph, S, h, num, gs, pg, rfl, hpg1, by omega, c2, hf, hS1, kQ1⟩
          · refine if_f (decide_eq_false (by omega)) ?_
            refine ⟨_, rfl, _, _, rfl, rfl, _, rfl, ?_⟩
            by_cases c3 : num ≤ 14
            · refine if_t (decide_eq_true (by omega)) ?_
              exact ⟨_, rfl, _, rfl, _, rfl, X, ph, S, h, num, gs, pg, rfl, hpg1, by omega, c3, hf, hS1, kQ1⟩
            · refine if_f (decide_eq_false (by omega)) ?_
              refine ⟨_, rfl, _, _, rfl, rfl, _, rfl, ?_⟩
              by_cases c4 : num ≤ 18
              · refine if_t (decide_eq_true (by omega)) ?_
                exact ⟨_, rfl, _, rfl, _, rfl, X, ph, S, h, num, gs, pg, rfl, hpg1, by omega, c4, hf, hS1, kQ1⟩
              · refine if_f (decide_eq_false (by omega)) ?_
                exact ⟨_, rfl, _, rfl, _, rfl, X, ph, S, h, num, gs, pg, rfl, hpg1, by omega, by omega, hf, hS1, kQ1⟩
end
end CI
open PySem PySem.W PyProof.Rows
set_option maxRecDepth 100000 in
set_option maxHeartbeats 0 in
theorem PySem.Challenge.cw_changeditself_s01_answers_holds : PySem.Challenge.rw_changeditself_s01_answers.Holds := by
  w_on; k_headS; (case hw => exact ⟨[.list [.int 7, .int 0, .int 0]], by decide +kernel, by decide +kernel⟩)
  k_fillS
  refine L2.walk_specK (r := PySem.Challenge.rw_changeditself_s01_answers) (k := 16) (CX := L2.CX0) (ps := ["calls"]) (sp := CI.sp_answers) (by decide +kernel) rfl rfl ⟨rfl, by decide, by decide⟩ (fun w h Y => PySem.W.kIn_of Y) ?F ?S (fun _ _ _ _ z => z)
  case F =>
    intro w mg fa h Y KX G hmg
    obtain ⟨f_furnish, fd_furnish, d_furnish⟩ : ∃ f fd, CI.Df _ mg "furnish" CI.s_furnish CI.P_furnish f fd := by
      refine' CI.df_mk KX G ?a_furnish ?l_furnish ?c_furnish ?k_furnish CI.b_furnish; (case a_furnish => k_is); (case l_furnish => k_is); (case c_furnish => k_is); (case k_furnish => k_is)
    obtain ⟨f_is_begun, fd_is_begun, d_is_begun⟩ : ∃ f fd, CI.Df _ mg "is_begun" CI.s_is_begun CI.P_is_begun f fd := by
      refine' CI.df_mk KX G ?a_is_begun ?l_is_begun ?c_is_begun ?k_is_begun CI.b_is_begun; (case a_is_begun => k_is); (case l_is_begun => k_is); (case c_is_begun => k_is); (case k_is_begun => k_is)
    obtain ⟨f_has_place, fd_has_place, d_has_place⟩ : ∃ f fd, CI.Df _ mg "has_place" CI.s_has_place CI.P_has_place f fd := by
      refine' CI.df_mk KX G ?a_has_place ?l_has_place ?c_has_place ?k_has_place CI.b_has_place; (case a_has_place => k_is); (case l_has_place => k_is); (case c_has_place => k_is); (case k_has_place => k_is)
    obtain ⟨f_has_self, fd_has_self, d_has_self⟩ : ∃ f fd, CI.Df _ mg "has_self" CI.s_has_self CI.P_has_self f fd := by
      refine' CI.df_mk KX G ?a_has_self ?l_has_self ?c_has_self ?k_has_self CI.b_has_self; (case a_has_self => k_is); (case l_has_self => k_is); (case c_has_self => k_is); (case k_has_self => k_is)
    obtain ⟨f_has_act, fd_has_act, d_has_act⟩ : ∃ f fd, CI.Df _ mg "has_act" CI.s_has_act CI.P_has_act f fd := by
      refine' CI.df_mk KX G ?a_has_act ?l_has_act ?c_has_act ?k_has_act CI.b_has_act; (case a_has_act => k_is); (case l_has_act => k_is); (case c_has_act => k_is); (case k_has_act => k_is)
    obtain ⟨f_may_go, fd_may_go, d_may_go⟩ : ∃ f fd, CI.Df _ mg "may_go" CI.s_may_go CI.P_may_go f fd := by
      refine' CI.df_mk KX G ?a_may_go ?l_may_go ?c_may_go ?k_may_go CI.b_may_go; (case a_may_go => k_is); (case l_may_go => k_is); (case c_may_go => k_is); (case k_may_go => k_is)
    obtain ⟨f_stand_behind, fd_stand_behind, d_stand_behind⟩ : ∃ f fd, CI.Df _ mg "stand_behind" CI.s_stand_behind CI.P_stand_behind f fd := by
      refine' CI.df_mk KX G ?a_stand_behind ?l_stand_behind ?c_stand_behind ?k_stand_behind CI.b_stand_behind; (case a_stand_behind => k_is); (case l_stand_behind => k_is); (case c_stand_behind => k_is); (case k_stand_behind => k_is)
    obtain ⟨f_common_divisor, fd_common_divisor, d_common_divisor⟩ : ∃ f fd, CI.Df _ mg "common_divisor" CI.s_common_divisor CI.P_common_divisor f fd := by
      refine' CI.df_mk KX G ?a_common_divisor ?l_common_divisor ?c_common_divisor ?k_common_divisor CI.b_common_divisor; (case a_common_divisor => k_is); (case l_common_divisor => k_is); (case c_common_divisor => k_is); (case k_common_divisor => k_is)
    obtain ⟨f_lowest, fd_lowest, d_lowest⟩ : ∃ f fd, CI.Df _ mg "lowest" CI.s_lowest CI.P_lowest f fd := by
      refine' CI.df_mk KX G ?a_lowest ?l_lowest ?c_lowest ?k_lowest CI.b_lowest; (case a_lowest => k_is); (case l_lowest => k_is); (case c_lowest => k_is); (case k_lowest => k_is)
    obtain ⟨f_is_less, fd_is_less, d_is_less⟩ : ∃ f fd, CI.Df _ mg "is_less" CI.s_is_less CI.P_is_less f fd := by
      refine' CI.df_mk KX G ?a_is_less ?l_is_less ?c_is_less ?k_is_less CI.b_is_less; (case a_is_less => k_is); (case l_is_less => k_is); (case c_is_less => k_is); (case k_is_less => k_is)
    obtain ⟨f_difference, fd_difference, d_difference⟩ : ∃ f fd, CI.Df _ mg "difference" CI.s_difference CI.P_difference f fd := by
      refine' CI.df_mk KX G ?a_difference ?l_difference ?c_difference ?k_difference CI.b_difference; (case a_difference => k_is); (case l_difference => k_is); (case c_difference => k_is); (case k_difference => k_is)
    obtain ⟨f_all_stands, fd_all_stands, d_all_stands⟩ : ∃ f fd, CI.Df _ mg "all_stands" CI.s_all_stands CI.P_all_stands f fd := by
      refine' CI.df_mk KX G ?a_all_stands ?l_all_stands ?c_all_stands ?k_all_stands CI.b_all_stands; (case a_all_stands => k_is); (case l_all_stands => k_is); (case c_all_stands => k_is); (case k_all_stands => k_is)
    obtain ⟨f_mean_behind, fd_mean_behind, d_mean_behind⟩ : ∃ f fd, CI.Df _ mg "mean_behind" CI.s_mean_behind CI.P_mean_behind f fd := by
      refine' CI.df_mk KX G ?a_mean_behind ?l_mean_behind ?c_mean_behind ?k_mean_behind CI.b_mean_behind; (case a_mean_behind => k_is); (case l_mean_behind => k_is); (case c_mean_behind => k_is); (case k_mean_behind => k_is)
    obtain ⟨f_brings, fd_brings, d_brings⟩ : ∃ f fd, CI.Df _ mg "brings" CI.s_brings CI.P_brings f fd := by
      refine' CI.df_mk KX G ?a_brings ?l_brings ?c_brings ?k_brings CI.b_brings; (case a_brings => k_is); (case l_brings => k_is); (case c_brings => k_is); (case k_brings => k_is)
    obtain ⟨f_best_act, fd_best_act, d_best_act⟩ : ∃ f fd, CI.Df _ mg "best_act" CI.s_best_act CI.P_best_act f fd := by
      refine' CI.df_mk KX G ?a_best_act ?l_best_act ?c_best_act ?k_best_act CI.b_best_act; (case a_best_act => k_is); (case l_best_act => k_is); (case c_best_act => k_is); (case k_best_act => k_is)
    obtain ⟨f_act_done, fd_act_done, d_act_done⟩ : ∃ f fd, CI.Df _ mg "act_done" CI.s_act_done CI.P_act_done f fd := by
      refine' CI.df_mk KX G ?a_act_done ?l_act_done ?c_act_done ?k_act_done CI.b_act_done; (case a_act_done => k_is); (case l_act_done => k_is); (case c_act_done => k_is); (case k_act_done => k_is)
    obtain ⟨f_nothing_brought, fd_nothing_brought, d_nothing_brought⟩ : ∃ f fd, CI.Df _ mg "nothing_brought" CI.s_nothing_brought CI.P_nothing_brought f fd := by
      refine' CI.df_mk KX G ?a_nothing_brought ?l_nothing_brought ?c_nothing_brought ?k_nothing_brought CI.b_nothing_brought; (case a_nothing_brought => k_is); (case l_nothing_brought => k_is); (case c_nothing_brought => k_is); (case k_nothing_brought => k_is)
    obtain ⟨f_worths_there, fd_worths_there, d_worths_there⟩ : ∃ f fd, CI.Df _ mg "worths_there" CI.s_worths_there CI.P_worths_there f fd := by
      refine' CI.df_mk KX G ?a_worths_there ?l_worths_there ?c_worths_there ?k_worths_there CI.b_worths_there; (case a_worths_there => k_is); (case l_worths_there => k_is); (case c_worths_there => k_is); (case k_worths_there => k_is)
    obtain ⟨f_one_step_more, fd_one_step_more, d_one_step_more⟩ : ∃ f fd, CI.Df _ mg "one_step_more" CI.s_one_step_more CI.P_one_step_more f fd := by
      refine' CI.df_mk KX G ?a_one_step_more ?l_one_step_more ?c_one_step_more ?k_one_step_more CI.b_one_step_more; (case a_one_step_more => k_is); (case l_one_step_more => k_is); (case c_one_step_more => k_is); (case k_one_step_more => k_is)
    obtain ⟨f_worth_tables, fd_worth_tables, d_worth_tables⟩ : ∃ f fd, CI.Df _ mg "worth_tables" CI.s_worth_tables CI.P_worth_tables f fd := by
      refine' CI.df_mk KX G ?a_worth_tables ?l_worth_tables ?c_worth_tables ?k_worth_tables CI.b_worth_tables; (case a_worth_tables => k_is); (case l_worth_tables => k_is); (case c_worth_tables => k_is); (case k_worth_tables => k_is)
    obtain ⟨f_worth_table, fd_worth_table, d_worth_table⟩ : ∃ f fd, CI.Df _ mg "worth_table" CI.s_worth_table CI.P_worth_table f fd := by
      refine' CI.df_mk KX G ?a_worth_table ?l_worth_table ?c_worth_table ?k_worth_table CI.b_worth_table; (case a_worth_table => k_is); (case l_worth_table => k_is); (case c_worth_table => k_is); (case k_worth_table => k_is)
    obtain ⟨f_likely_one_step_more, fd_likely_one_step_more, d_likely_one_step_more⟩ : ∃ f fd, CI.Df _ mg "likely_one_step_more" CI.s_likely_one_step_more CI.P_likely_one_step_more f fd := by
      refine' CI.df_mk KX G ?a_likely_one_step_more ?l_likely_one_step_more ?c_likely_one_step_more ?k_likely_one_step_more CI.b_likely_one_step_more; (case a_likely_one_step_more => k_is); (case l_likely_one_step_more => k_is); (case c_likely_one_step_more => k_is); (case k_likely_one_step_more => k_is)
    obtain ⟨f_likely_table, fd_likely_table, d_likely_table⟩ : ∃ f fd, CI.Df _ mg "likely_table" CI.s_likely_table CI.P_likely_table f fd := by
      refine' CI.df_mk KX G ?a_likely_table ?l_likely_table ?c_likely_table ?k_likely_table CI.b_likely_table; (case a_likely_table => k_is); (case l_likely_table => k_is); (case c_likely_table => k_is); (case k_likely_table => k_is)
    obtain ⟨f_turns_there, fd_turns_there, d_turns_there⟩ : ∃ f fd, CI.Df _ mg "turns_there" CI.s_turns_there CI.P_turns_there f fd := by
      refine' CI.df_mk KX G ?a_turns_there ?l_turns_there ?c_turns_there ?k_turns_there CI.b_turns_there; (case a_turns_there => k_is); (case l_turns_there => k_is); (case c_turns_there => k_is); (case k_turns_there => k_is)
    obtain ⟨f_never_turns, fd_never_turns, d_never_turns⟩ : ∃ f fd, CI.Df _ mg "never_turns" CI.s_never_turns CI.P_never_turns f fd := by
      refine' CI.df_mk KX G ?a_never_turns ?l_never_turns ?c_never_turns ?k_never_turns CI.b_never_turns; (case a_never_turns => k_is); (case l_never_turns => k_is); (case c_never_turns => k_is); (case k_never_turns => k_is)
    obtain ⟨f_stands_behind, fd_stands_behind, d_stands_behind⟩ : ∃ f fd, CI.Df _ mg "stands_behind" CI.s_stands_behind CI.P_stands_behind f fd := by
      refine' CI.df_mk KX G ?a_stands_behind ?l_stands_behind ?c_stands_behind ?k_stands_behind CI.b_stands_behind; (case a_stands_behind => k_is); (case l_stands_behind => k_is); (case c_stands_behind => k_is); (case k_stands_behind => k_is)
    obtain ⟨f_surely_stays, fd_surely_stays, d_surely_stays⟩ : ∃ f fd, CI.Df _ mg "surely_stays" CI.s_surely_stays CI.P_surely_stays f fd := by
      refine' CI.df_mk KX G ?a_surely_stays ?l_surely_stays ?c_surely_stays ?k_surely_stays CI.b_surely_stays; (case a_surely_stays => k_is); (case l_surely_stays => k_is); (case c_surely_stays => k_is); (case k_surely_stays => k_is)
    obtain ⟨f_is_kept, fd_is_kept, d_is_kept⟩ : ∃ f fd, CI.Df _ mg "is_kept" CI.s_is_kept CI.P_is_kept f fd := by
      refine' CI.df_mk KX G ?a_is_kept ?l_is_kept ?c_is_kept ?k_is_kept CI.b_is_kept; (case a_is_kept => k_is); (case l_is_kept => k_is); (case c_is_kept => k_is); (case k_is_kept => k_is)
    obtain ⟨f_would_be_kept, fd_would_be_kept, d_would_be_kept⟩ : ∃ f fd, CI.Df _ mg "would_be_kept" CI.s_would_be_kept CI.P_would_be_kept f fd := by
      refine' CI.df_mk KX G ?a_would_be_kept ?l_would_be_kept ?c_would_be_kept ?k_would_be_kept CI.b_would_be_kept; (case a_would_be_kept => k_is); (case l_would_be_kept => k_is); (case c_would_be_kept => k_is); (case k_would_be_kept => k_is)
    obtain ⟨f_all_are_kept, fd_all_are_kept, d_all_are_kept⟩ : ∃ f fd, CI.Df _ mg "all_are_kept" CI.s_all_are_kept CI.P_all_are_kept f fd := by
      refine' CI.df_mk KX G ?a_all_are_kept ?l_all_are_kept ?c_all_are_kept ?k_all_are_kept CI.b_all_are_kept; (case a_all_are_kept => k_is); (case l_all_are_kept => k_is); (case c_all_are_kept => k_is); (case k_all_are_kept => k_is)
    obtain ⟨f_is_twin, fd_is_twin, d_is_twin⟩ : ∃ f fd, CI.Df _ mg "is_twin" CI.s_is_twin CI.P_is_twin f fd := by
      refine' CI.df_mk KX G ?a_is_twin ?l_is_twin ?c_is_twin ?k_is_twin CI.b_is_twin; (case a_is_twin => k_is); (case l_is_twin => k_is); (case c_is_twin => k_is); (case k_is_twin => k_is)
    obtain ⟨f_is_lonely, fd_is_lonely, d_is_lonely⟩ : ∃ f fd, CI.Df _ mg "is_lonely" CI.s_is_lonely CI.P_is_lonely f fd := by
      refine' CI.df_mk KX G ?a_is_lonely ?l_is_lonely ?c_is_lonely ?k_is_lonely CI.b_is_lonely; (case a_is_lonely => k_is); (case l_is_lonely => k_is); (case c_is_lonely => k_is); (case k_is_lonely => k_is)
    obtain ⟨f_twin_of, fd_twin_of, d_twin_of⟩ : ∃ f fd, CI.Df _ mg "twin_of" CI.s_twin_of CI.P_twin_of f fd := by
      refine' CI.df_mk KX G ?a_twin_of ?l_twin_of ?c_twin_of ?k_twin_of CI.b_twin_of; (case a_twin_of => k_is); (case l_twin_of => k_is); (case c_twin_of => k_is); (case k_twin_of => k_is)
    obtain ⟨f_lonely_acts, fd_lonely_acts, d_lonely_acts⟩ : ∃ f fd, CI.Df _ mg "lonely_acts" CI.s_lonely_acts CI.P_lonely_acts f fd := by
      refine' CI.df_mk KX G ?a_lonely_acts ?l_lonely_acts ?c_lonely_acts ?k_lonely_acts CI.b_lonely_acts; (case a_lonely_acts => k_is); (case l_lonely_acts => k_is); (case c_lonely_acts => k_is); (case k_lonely_acts => k_is)
    obtain ⟨f_answer_change, fd_answer_change, d_answer_change⟩ : ∃ f fd, CI.Df _ mg "answer_change" CI.s_answer_change CI.P_answer_change f fd := by
      refine' CI.df_mk KX G ?a_answer_change ?l_answer_change ?c_answer_change ?k_answer_change CI.b_answer_change; (case a_answer_change => k_is); (case l_answer_change => k_is); (case c_answer_change => k_is); (case k_answer_change => k_is)
    obtain ⟨f_begin, fd_begin, d_begin⟩ : ∃ f fd, CI.Df _ mg "begin" CI.s_begin CI.P_begin f fd := by
      refine' CI.df_mk KX G ?a_begin ?l_begin ?c_begin ?k_begin CI.b_begin; (case a_begin => k_is); (case l_begin => k_is); (case c_begin => k_is); (case k_begin => k_is)
    obtain ⟨f_all_between, fd_all_between, d_all_between⟩ : ∃ f fd, CI.Df _ mg "all_between" CI.s_all_between CI.P_all_between f fd := by
      refine' CI.df_mk KX G ?a_all_between ?l_all_between ?c_all_between ?k_all_between CI.b_all_between; (case a_all_between => k_is); (case l_all_between => k_is); (case c_all_between => k_is); (case k_all_between => k_is)
    obtain ⟨f_is_act_row, fd_is_act_row, d_is_act_row⟩ : ∃ f fd, CI.Df _ mg "is_act_row" CI.s_is_act_row CI.P_is_act_row f fd := by
      refine' CI.df_mk KX G ?a_is_act_row ?l_is_act_row ?c_is_act_row ?k_is_act_row CI.b_is_act_row; (case a_is_act_row => k_is); (case l_is_act_row => k_is); (case c_is_act_row => k_is); (case k_is_act_row => k_is)
    obtain ⟨f_settle, fd_settle, d_settle⟩ : ∃ f fd, CI.Df _ mg "settle" CI.s_settle CI.P_settle f fd := by
      refine' CI.df_mk KX G ?a_settle ?l_settle ?c_settle ?k_settle CI.b_settle; (case a_settle => k_is); (case l_settle => k_is); (case c_settle => k_is); (case k_settle => k_is)
    obtain ⟨f_put_act, fd_put_act, d_put_act⟩ : ∃ f fd, CI.Df _ mg "put_act" CI.s_put_act CI.P_put_act f fd := by
      refine' CI.df_mk KX G ?a_put_act ?l_put_act ?c_put_act ?k_put_act CI.b_put_act; (case a_put_act => k_is); (case l_put_act => k_is); (case c_put_act => k_is); (case k_put_act => k_is)
    obtain ⟨f_take_act, fd_take_act, d_take_act⟩ : ∃ f fd, CI.Df _ mg "take_act" CI.s_take_act CI.P_take_act f fd := by
      refine' CI.df_mk KX G ?a_take_act ?l_take_act ?c_take_act ?k_take_act CI.b_take_act; (case a_take_act => k_is); (case l_take_act => k_is); (case c_take_act => k_is); (case k_take_act => k_is)
    obtain ⟨f_set_turn, fd_set_turn, d_set_turn⟩ : ∃ f fd, CI.Df _ mg "set_turn" CI.s_set_turn CI.P_set_turn f fd := by
      refine' CI.df_mk KX G ?a_set_turn ?l_set_turn ?c_set_turn ?k_set_turn CI.b_set_turn; (case a_set_turn => k_is); (case l_set_turn => k_is); (case c_set_turn => k_is); (case k_set_turn => k_is)
    obtain ⟨f_set_lock, fd_set_lock, d_set_lock⟩ : ∃ f fd, CI.Df _ mg "set_lock" CI.s_set_lock CI.P_set_lock f fd := by
      refine' CI.df_mk KX G ?a_set_lock ?l_set_lock ?c_set_lock ?k_set_lock CI.b_set_lock; (case a_set_lock => k_is); (case l_set_lock => k_is); (case c_set_lock => k_is); (case k_set_lock => k_is)
    obtain ⟨f_add_twins, fd_add_twins, d_add_twins⟩ : ∃ f fd, CI.Df _ mg "add_twins" CI.s_add_twins CI.P_add_twins f fd := by
      refine' CI.df_mk KX G ?a_add_twins ?l_add_twins ?c_add_twins ?k_add_twins CI.b_add_twins; (case a_add_twins => k_is); (case l_add_twins => k_is); (case c_add_twins => k_is); (case k_add_twins => k_is)
    obtain ⟨f_answer_going, fd_answer_going, d_answer_going⟩ : ∃ f fd, CI.Df _ mg "answer_going" CI.s_answer_going CI.P_answer_going f fd := by
      refine' CI.df_mk KX G ?a_answer_going ?l_answer_going ?c_answer_going ?k_answer_going CI.b_answer_going; (case a_answer_going => k_is); (case l_answer_going => k_is); (case c_answer_going => k_is); (case k_answer_going => k_is)
    obtain ⟨f_place_by_luck, fd_place_by_luck, d_place_by_luck⟩ : ∃ f fd, CI.Df _ mg "place_by_luck" CI.s_place_by_luck CI.P_place_by_luck f fd := by
      refine' CI.df_mk KX G ?a_place_by_luck ?l_place_by_luck ?c_place_by_luck ?k_place_by_luck CI.b_place_by_luck; (case a_place_by_luck => k_is); (case l_place_by_luck => k_is); (case c_place_by_luck => k_is); (case k_place_by_luck => k_is)
    obtain ⟨f_has_ended, fd_has_ended, d_has_ended⟩ : ∃ f fd, CI.Df _ mg "has_ended" CI.s_has_ended CI.P_has_ended f fd := by
      refine' CI.df_mk KX G ?a_has_ended ?l_has_ended ?c_has_ended ?k_has_ended CI.b_has_ended; (case a_has_ended => k_is); (case l_has_ended => k_is); (case c_has_ended => k_is); (case k_has_ended => k_is)
    obtain ⟨f_next_entry, fd_next_entry, d_next_entry⟩ : ∃ f fd, CI.Df _ mg "next_entry" CI.s_next_entry CI.P_next_entry f fd := by
      refine' CI.df_mk KX G ?a_next_entry ?l_next_entry ?c_next_entry ?k_next_entry CI.b_next_entry; (case a_next_entry => k_is); (case l_next_entry => k_is); (case c_next_entry => k_is); (case k_next_entry => k_is)
    obtain ⟨f_do_entry, fd_do_entry, d_do_entry⟩ : ∃ f fd, CI.Df _ mg "do_entry" CI.s_do_entry CI.P_do_entry f fd := by
      refine' CI.df_mk KX G ?a_do_entry ?l_do_entry ?c_do_entry ?k_do_entry CI.b_do_entry; (case a_do_entry => k_is); (case l_do_entry => k_is); (case c_do_entry => k_is); (case k_do_entry => k_is)
    obtain ⟨f_tell_ahead, fd_tell_ahead, d_tell_ahead⟩ : ∃ f fd, CI.Df _ mg "tell_ahead" CI.s_tell_ahead CI.P_tell_ahead f fd := by
      refine' CI.df_mk KX G ?a_tell_ahead ?l_tell_ahead ?c_tell_ahead ?k_tell_ahead CI.b_tell_ahead; (case a_tell_ahead => k_is); (case l_tell_ahead => k_is); (case c_tell_ahead => k_is); (case k_tell_ahead => k_is)
    obtain ⟨f_go, fd_go, d_go⟩ : ∃ f fd, CI.Df _ mg "go" CI.s_go CI.P_go f fd := by
      refine' CI.df_mk KX G ?a_go ?l_go ?c_go ?k_go CI.b_go; (case a_go => k_is); (case l_go => k_is); (case c_go => k_is); (case k_go => k_is)
    obtain ⟨f_is_luck_row, fd_is_luck_row, d_is_luck_row⟩ : ∃ f fd, CI.Df _ mg "is_luck_row" CI.s_is_luck_row CI.P_is_luck_row f fd := by
      refine' CI.df_mk KX G ?a_is_luck_row ?l_is_luck_row ?c_is_luck_row ?k_is_luck_row CI.b_is_luck_row; (case a_is_luck_row => k_is); (case l_is_luck_row => k_is); (case c_is_luck_row => k_is); (case k_is_luck_row => k_is)
    obtain ⟨f_run, fd_run, d_run⟩ : ∃ f fd, CI.Df _ mg "run" CI.s_run CI.P_run f fd := by
      refine' CI.df_mk KX G ?a_run ?l_run ?c_run ?k_run CI.b_run; (case a_run => k_is); (case l_run => k_is); (case c_run => k_is); (case k_run => k_is)
    obtain ⟨f_answer_promising, fd_answer_promising, d_answer_promising⟩ : ∃ f fd, CI.Df _ mg "answer_promising" CI.s_answer_promising CI.P_answer_promising f fd := by
      refine' CI.df_mk KX G ?a_answer_promising ?l_answer_promising ?c_answer_promising ?k_answer_promising CI.b_answer_promising; (case a_answer_promising => k_is); (case l_answer_promising => k_is); (case c_answer_promising => k_is); (case k_answer_promising => k_is)
    obtain ⟨f_put_promise, fd_put_promise, d_put_promise⟩ : ∃ f fd, CI.Df _ mg "put_promise" CI.s_put_promise CI.P_put_promise f fd := by
      refine' CI.df_mk KX G ?a_put_promise ?l_put_promise ?c_put_promise ?k_put_promise CI.b_put_promise; (case a_put_promise => k_is); (case l_put_promise => k_is); (case c_put_promise => k_is); (case k_put_promise => k_is)
    obtain ⟨f_promise_never, fd_promise_never, d_promise_never⟩ : ∃ f fd, CI.Df _ mg "promise_never" CI.s_promise_never CI.P_promise_never f fd := by
      refine' CI.df_mk KX G ?a_promise_never ?l_promise_never ?c_promise_never ?k_promise_never CI.b_promise_never; (case a_promise_never => k_is); (case l_promise_never => k_is); (case c_promise_never => k_is); (case k_promise_never => k_is)
    obtain ⟨f_promise_stay, fd_promise_stay, d_promise_stay⟩ : ∃ f fd, CI.Df _ mg "promise_stay" CI.s_promise_stay CI.P_promise_stay f fd := by
      refine' CI.df_mk KX G ?a_promise_stay ?l_promise_stay ?c_promise_stay ?k_promise_stay CI.b_promise_stay; (case a_promise_stay => k_is); (case l_promise_stay => k_is); (case c_promise_stay => k_is); (case k_promise_stay => k_is)
    obtain ⟨f_is_worth_row, fd_is_worth_row, d_is_worth_row⟩ : ∃ f fd, CI.Df _ mg "is_worth_row" CI.s_is_worth_row CI.P_is_worth_row f fd := by
      refine' CI.df_mk KX G ?a_is_worth_row ?l_is_worth_row ?c_is_worth_row ?k_is_worth_row CI.b_is_worth_row; (case a_is_worth_row => k_is); (case l_is_worth_row => k_is); (case c_is_worth_row => k_is); (case k_is_worth_row => k_is)
    obtain ⟨f_promise_worth, fd_promise_worth, d_promise_worth⟩ : ∃ f fd, CI.Df _ mg "promise_worth" CI.s_promise_worth CI.P_promise_worth f fd := by
      refine' CI.df_mk KX G ?a_promise_worth ?l_promise_worth ?c_promise_worth ?k_promise_worth CI.b_promise_worth; (case a_promise_worth => k_is); (case l_promise_worth => k_is); (case c_promise_worth => k_is); (case k_promise_worth => k_is)
    obtain ⟨f_has_promise, fd_has_promise, d_has_promise⟩ : ∃ f fd, CI.Df _ mg "has_promise" CI.s_has_promise CI.P_has_promise f fd := by
      refine' CI.df_mk KX G ?a_has_promise ?l_has_promise ?c_has_promise ?k_has_promise CI.b_has_promise; (case a_has_promise => k_is); (case l_has_promise => k_is); (case c_has_promise => k_is); (case k_has_promise => k_is)
    obtain ⟨f_tell_promise, fd_tell_promise, d_tell_promise⟩ : ∃ f fd, CI.Df _ mg "tell_promise" CI.s_tell_promise CI.P_tell_promise f fd := by
      refine' CI.df_mk KX G ?a_tell_promise ?l_tell_promise ?c_tell_promise ?k_tell_promise CI.b_tell_promise; (case a_tell_promise => k_is); (case l_tell_promise => k_is); (case c_tell_promise => k_is); (case k_tell_promise => k_is)
    obtain ⟨f_take_promise, fd_take_promise, d_take_promise⟩ : ∃ f fd, CI.Df _ mg "take_promise" CI.s_take_promise CI.P_take_promise f fd := by
      refine' CI.df_mk KX G ?a_take_promise ?l_take_promise ?c_take_promise ?k_take_promise CI.b_take_promise; (case a_take_promise => k_is); (case l_take_promise => k_is); (case c_take_promise => k_is); (case k_take_promise => k_is)
    obtain ⟨f_tell_holds, fd_tell_holds, d_tell_holds⟩ : ∃ f fd, CI.Df _ mg "tell_holds" CI.s_tell_holds CI.P_tell_holds f fd := by
      refine' CI.df_mk KX G ?a_tell_holds ?l_tell_holds ?c_tell_holds ?k_tell_holds CI.b_tell_holds; (case a_tell_holds => k_is); (case l_tell_holds => k_is); (case c_tell_holds => k_is); (case k_tell_holds => k_is)
    obtain ⟨f_tell_count, fd_tell_count, d_tell_count⟩ : ∃ f fd, CI.Df _ mg "tell_count" CI.s_tell_count CI.P_tell_count f fd := by
      refine' CI.df_mk KX G ?a_tell_count ?l_tell_count ?c_tell_count ?k_tell_count CI.b_tell_count; (case a_tell_count => k_is); (case l_tell_count => k_is); (case c_tell_count => k_is); (case k_tell_count => k_is)
    obtain ⟨f_answer_question, fd_answer_question, d_answer_question⟩ : ∃ f fd, CI.Df _ mg "answer_question" CI.s_answer_question CI.P_answer_question f fd := by
      refine' CI.df_mk KX G ?a_answer_question ?l_answer_question ?c_answer_question ?k_answer_question CI.b_answer_question; (case a_answer_question => k_is); (case l_answer_question => k_is); (case c_answer_question => k_is); (case k_answer_question => k_is)
    obtain ⟨f_put_helper, fd_put_helper, d_put_helper⟩ : ∃ f fd, CI.Df _ mg "put_helper" CI.s_put_helper CI.P_put_helper f fd := by
      refine' CI.df_mk KX G ?a_put_helper ?l_put_helper ?c_put_helper ?k_put_helper CI.b_put_helper; (case a_put_helper => k_is); (case l_put_helper => k_is); (case c_put_helper => k_is); (case k_put_helper => k_is)
    obtain ⟨f_tell_stand, fd_tell_stand, d_tell_stand⟩ : ∃ f fd, CI.Df _ mg "tell_stand" CI.s_tell_stand CI.P_tell_stand f fd := by
      refine' CI.df_mk KX G ?a_tell_stand ?l_tell_stand ?c_tell_stand ?k_tell_stand CI.b_tell_stand; (case a_tell_stand => k_is); (case l_tell_stand => k_is); (case c_tell_stand => k_is); (case k_tell_stand => k_is)
    obtain ⟨f_tell_act, fd_tell_act, d_tell_act⟩ : ∃ f fd, CI.Df _ mg "tell_act" CI.s_tell_act CI.P_tell_act f fd := by
      refine' CI.df_mk KX G ?a_tell_act ?l_tell_act ?c_tell_act ?k_tell_act CI.b_tell_act; (case a_tell_act => k_is); (case l_tell_act => k_is); (case c_tell_act => k_is); (case k_tell_act => k_is)
    obtain ⟨f_tell_lights, fd_tell_lights, d_tell_lights⟩ : ∃ f fd, CI.Df _ mg "tell_lights" CI.s_tell_lights CI.P_tell_lights f fd := by
      refine' CI.df_mk KX G ?a_tell_lights ?l_tell_lights ?c_tell_lights ?k_tell_lights CI.b_tell_lights; (case a_tell_lights => k_is); (case l_tell_lights => k_is); (case c_tell_lights => k_is); (case k_tell_lights => k_is)
    obtain ⟨f_tell_cost, fd_tell_cost, d_tell_cost⟩ : ∃ f fd, CI.Df _ mg "tell_cost" CI.s_tell_cost CI.P_tell_cost f fd := by
      refine' CI.df_mk KX G ?a_tell_cost ?l_tell_cost ?c_tell_cost ?k_tell_cost CI.b_tell_cost; (case a_tell_cost => k_is); (case l_tell_cost => k_is); (case c_tell_cost => k_is); (case k_tell_cost => k_is)
    obtain ⟨f_tell_lonely, fd_tell_lonely, d_tell_lonely⟩ : ∃ f fd, CI.Df _ mg "tell_lonely" CI.s_tell_lonely CI.P_tell_lonely f fd := by
      refine' CI.df_mk KX G ?a_tell_lonely ?l_tell_lonely ?c_tell_lonely ?k_tell_lonely CI.b_tell_lonely; (case a_tell_lonely => k_is); (case l_tell_lonely => k_is); (case c_tell_lonely => k_is); (case k_tell_lonely => k_is)
    obtain ⟨f_answer_telling, fd_answer_telling, d_answer_telling⟩ : ∃ f fd, CI.Df _ mg "answer_telling" CI.s_answer_telling CI.P_answer_telling f fd := by
      refine' CI.df_mk KX G ?a_answer_telling ?l_answer_telling ?c_answer_telling ?k_answer_telling CI.b_answer_telling; (case a_answer_telling => k_is); (case l_answer_telling => k_is); (case c_answer_telling => k_is); (case k_answer_telling => k_is)
    obtain ⟨f_tell_entry, fd_tell_entry, d_tell_entry⟩ : ∃ f fd, CI.Df _ mg "tell_entry" CI.s_tell_entry CI.P_tell_entry f fd := by
      refine' CI.df_mk KX G ?a_tell_entry ?l_tell_entry ?c_tell_entry ?k_tell_entry CI.b_tell_entry; (case a_tell_entry => k_is); (case l_tell_entry => k_is); (case c_tell_entry => k_is); (case k_tell_entry => k_is)
    obtain ⟨f_tell_paid, fd_tell_paid, d_tell_paid⟩ : ∃ f fd, CI.Df _ mg "tell_paid" CI.s_tell_paid CI.P_tell_paid f fd := by
      refine' CI.df_mk KX G ?a_tell_paid ?l_tell_paid ?c_tell_paid ?k_tell_paid CI.b_tell_paid; (case a_tell_paid => k_is); (case l_tell_paid => k_is); (case c_tell_paid => k_is); (case k_tell_paid => k_is)
    obtain ⟨f_tell_became, fd_tell_became, d_tell_became⟩ : ∃ f fd, CI.Df _ mg "tell_became" CI.s_tell_became CI.P_tell_became f fd := by
      refine' CI.df_mk KX G ?a_tell_became ?l_tell_became ?c_tell_became ?k_tell_became CI.b_tell_became; (case a_tell_became => k_is); (case l_tell_became => k_is); (case c_tell_became => k_is); (case k_tell_became => k_is)
    obtain ⟨f_tell_still, fd_tell_still, d_tell_still⟩ : ∃ f fd, CI.Df _ mg "tell_still" CI.s_tell_still CI.P_tell_still f fd := by
      refine' CI.df_mk KX G ?a_tell_still ?l_tell_still ?c_tell_still ?k_tell_still CI.b_tell_still; (case a_tell_still => k_is); (case l_tell_still => k_is); (case c_tell_still => k_is); (case k_tell_still => k_is)
    obtain ⟨f_answer_call, fd_answer_call, d_answer_call⟩ : ∃ f fd, CI.Df _ mg "answer_call" CI.s_answer_call CI.P_answer_call f fd := by
      refine' CI.df_mk KX G ?a_answer_call ?l_answer_call ?c_answer_call ?k_answer_call CI.b_answer_call; (case a_answer_call => k_is); (case l_answer_call => k_is); (case c_answer_call => k_is); (case k_answer_call => k_is)
    obtain ⟨f_answers, fd_answers, d_answers⟩ : ∃ f fd, CI.Df _ mg "answers" CI.s_answers CI.P_answers f fd := by
      refine' CI.df_mk KX G ?a_answers ?l_answers ?c_answers ?k_answers CI.b_answers; (case a_answers => k_is); (case l_answers => k_is); (case c_answers => k_is); (case k_answers => k_is)
    obtain ⟨C_Act, f_Act, fd_Act, c_Act⟩ : ∃ C f fd, CI.Cl _ mg "Act" "Act.__init__" CI.s_Act___init__ CI.P_Act___init__ CI.A_Act C f fd := by
      refine' CI.cl_mk KX G ?a_Act ?a1_Act ?i1_Act ?l1_Act ?c1_Act ?k1_Act ?pg_Act ?hd_Act ?po_Act ?sa_Act ?mk_Act ?kc_Act (CI.na_cons ?n0_Act (CI.na_cons ?n1_Act (CI.na_cons ?n2_Act (CI.na_cons ?n3_Act CI.na_nil)))) CI.b_Act___init__
      (case a_Act => k_is)
      (case a1_Act => k_is)
      (case i1_Act => k_is)
      (case l1_Act => k_is)
      (case c1_Act => k_is)
      (case k1_Act => k_is)
      (case pg_Act => k_is)
      (case hd_Act => k_is)
      (case po_Act => k_is)
      (case sa_Act => k_is)
      (case mk_Act => k_is)
      (case kc_Act => k_is)
      (case n0_Act => k_is)
      (case n1_Act => k_is)
      (case n2_Act => k_is)
      (case n3_Act => k_is)
    obtain ⟨C_Entry, f_Entry, fd_Entry, c_Entry⟩ : ∃ C f fd, CI.Cl _ mg "Entry" "Entry.__init__" CI.s_Entry___init__ CI.P_Entry___init__ CI.A_Entry C f fd := by
      refine' CI.cl_mk KX G ?a_Entry ?a1_Entry ?i1_Entry ?l1_Entry ?c1_Entry ?k1_Entry ?pg_Entry ?hd_Entry ?po_Entry ?sa_Entry ?mk_Entry ?kc_Entry (CI.na_cons ?n0_Entry (CI.na_cons ?n1_Entry (CI.na_cons ?n2_Entry (CI.na_cons ?n3_Entry (CI.na_cons ?n4_Entry CI.na_nil))))) CI.b_Entry___init__
      (case a_Entry => k_is)
      (case a1_Entry => k_is)
      (case i1_Entry => k_is)
      (case l1_Entry => k_is)
      (case c1_Entry => k_is)
      (case k1_Entry => k_is)
      (case pg_Entry => k_is)
      (case hd_Entry => k_is)
      (case po_Entry => k_is)
      (case sa_Entry => k_is)
      (case mk_Entry => k_is)
      (case kc_Entry => k_is)
      (case n0_Entry => k_is)
      (case n1_Entry => k_is)
      (case n2_Entry => k_is)
      (case n3_Entry => k_is)
      (case n4_Entry => k_is)
    obtain ⟨C_House, f_House, fd_House, c_House⟩ : ∃ C f fd, CI.Cl _ mg "House" "House.__init__" CI.s_House___init__ CI.P_House___init__ CI.A_House C f fd := by
      refine' CI.cl_mk KX G ?a_House ?a1_House ?i1_House ?l1_House ?c1_House ?k1_House ?pg_House ?hd_House ?po_House ?sa_House ?mk_House ?kc_House (CI.na_cons ?n0_House (CI.na_cons ?n1_House (CI.na_cons ?n2_House (CI.na_cons ?n3_House (CI.na_cons ?n4_House (CI.na_cons ?n5_House CI.na_nil)))))) CI.b_House___init__
      (case a_House => k_is)
      (case a1_House => k_is)
      (case i1_House => k_is)
      (case l1_House => k_is)
      (case c1_House => k_is)
      (case k1_House => k_is)
      (case pg_House => k_is)
      (case hd_House => k_is)
      (case po_House => k_is)
      (case sa_House => k_is)
      (case mk_House => k_is)
      (case kc_House => k_is)
      (case n0_House => k_is)
      (case n1_House => k_is)
      (case n2_House => k_is)
      (case n3_House => k_is)
      (case n4_House => k_is)
      (case n5_House => k_is)
    let n : CI.Nm := ⟨C_Act, f_Act, fd_Act, C_Entry, f_Entry, fd_Entry, C_House, f_House, fd_House, f_furnish, fd_furnish, f_is_begun, fd_is_begun, f_has_place, fd_has_place, f_has_self, fd_has_self, f_has_act, fd_has_act, f_may_go, fd_may_go, f_stand_behind, fd_stand_behind, f_common_divisor, fd_common_divisor, f_lowest, fd_lowest, f_is_less, fd_is_less, f_difference, fd_difference, f_all_stands, fd_all_stands, f_mean_behind, fd_mean_behind, f_brings, fd_brings, f_best_act, fd_best_act, f_act_done, fd_act_done, f_nothing_brought, fd_nothing_brought, f_worths_there, fd_worths_there, f_one_step_more, fd_one_step_more, f_worth_tables, fd_worth_tables, f_worth_table, fd_worth_table, f_likely_one_step_more, fd_likely_one_step_more, f_likely_table, fd_likely_table, f_turns_there, fd_turns_there, f_never_turns, fd_never_turns, f_stands_behind, fd_stands_behind, f_surely_stays, fd_surely_stays, f_is_kept, fd_is_kept, f_would_be_kept, fd_would_be_kept, f_all_are_kept, fd_all_are_kept, f_is_twin, fd_is_twin, f_is_lonely, fd_is_lonely, f_twin_of, fd_twin_of, f_lonely_acts, fd_lonely_acts, f_answer_change, fd_answer_change, f_begin, fd_begin, f_all_between, fd_all_between, f_is_act_row, fd_is_act_row, f_settle, fd_settle, f_put_act, fd_put_act, f_take_act, fd_take_act, f_set_turn, fd_set_turn, f_set_lock, fd_set_lock, f_add_twins, fd_add_twins, f_answer_going, fd_answer_going, f_place_by_luck, fd_place_by_luck, f_has_ended, fd_has_ended, f_next_entry, fd_next_entry, f_do_entry, fd_do_entry, f_tell_ahead, fd_tell_ahead, f_go, fd_go, f_is_luck_row, fd_is_luck_row, f_run, fd_run, f_answer_promising, fd_answer_promising, f_put_promise, fd_put_promise, f_promise_never, fd_promise_never, f_promise_stay, fd_promise_stay, f_is_worth_row, fd_is_worth_row, f_promise_worth, fd_promise_worth, f_has_promise, fd_has_promise, f_tell_promise, fd_tell_promise, f_take_promise, fd_take_promise, f_tell_holds, fd_tell_holds, f_tell_count, fd_tell_count, f_answer_question, fd_answer_question, f_put_helper, fd_put_helper, f_tell_stand, fd_tell_stand, f_tell_act, fd_tell_act, f_tell_lights, fd_tell_lights, f_tell_cost, fd_tell_cost, f_tell_lonely, fd_tell_lonely, f_answer_telling, fd_answer_telling, f_tell_entry, fd_tell_entry, f_tell_paid, fd_tell_paid, f_tell_became, fd_tell_became, f_tell_still, fd_tell_still, f_answer_call, fd_answer_call, f_answers, fd_answers⟩
    have g_MOST_ACTS : ∃ t, mg "MOST_ACTS" = some (.int (3) t) := by
      refine' CI.const_mk KX G ?z_MOST_ACTS; (case z_MOST_ACTS => k_is)
    have g_MOST_STEPS : ∃ t, mg "MOST_STEPS" = some (.int (4) t) := by
      refine' CI.const_mk KX G ?z_MOST_STEPS; (case z_MOST_STEPS => k_is)
    have g_MOST_ENTRIES : ∃ t, mg "MOST_ENTRIES" = some (.int (16) t) := by
      refine' CI.const_mk KX G ?z_MOST_ENTRIES; (case z_MOST_ENTRIES => k_is)
    have g_MOST_PROMISES : ∃ t, mg "MOST_PROMISES" = some (.int (4) t) := by
      refine' CI.const_mk KX G ?z_MOST_PROMISES; (case z_MOST_PROMISES => k_is)
    have g_NEVER : ∃ t, mg "NEVER" = some (.int (0) t) := by
      refine' CI.const_mk KX G ?z_NEVER; (case z_NEVER => k_is)
    have g_STAY : ∃ t, mg "STAY" = some (.int (1) t) := by
      refine' CI.const_mk KX G ?z_STAY; (case z_STAY => k_is)
    have g_WORTH : ∃ t, mg "WORTH" = some (.int (2) t) := by
      refine' CI.const_mk KX G ?z_WORTH; (case z_WORTH => k_is)
    have g_NO_SUCH : ∃ t, mg "NO_SUCH" = some (.int (-2) t) := by
      refine' CI.const_mk KX G ?z_NO_SUCH; (case z_NO_SUCH => k_is)
    have g_NOT_BEGUN : ∃ t, mg "NOT_BEGUN" = some (.int (-11) t) := by
      refine' CI.const_mk KX G ?z_NOT_BEGUN; (case z_NOT_BEGUN => k_is)
    have g_ALREADY_PROMISED : ∃ t, mg "ALREADY_PROMISED" = some (.int (-17) t) := by
      refine' CI.const_mk KX G ?z_ALREADY_PROMISED; (case z_ALREADY_PROMISED => k_is)
    have g_NOT_AS_TOLD : ∃ t, mg "NOT_AS_TOLD" = some (.int (-22) t) := by
      refine' CI.const_mk KX G ?z_NOT_AS_TOLD; (case z_NOT_AS_TOLD => k_is)
    have g_FULL : ∃ t, mg "FULL" = some (.int (-28) t) := by
      refine' CI.const_mk KX G ?z_FULL; (case z_FULL => k_is)
    have g_NOT_KEPT : ∃ t, mg "NOT_KEPT" = some (.int (-30) t) := by
      refine' CI.const_mk KX G ?z_NOT_KEPT; (case z_NOT_KEPT => k_is)
    have g_NO_ACT : ∃ t, mg "NO_ACT" = some (.int (-33) t) := by
      refine' CI.const_mk KX G ?z_NO_ACT; (case z_NO_ACT => k_is)
    have g_BEGIN : ∃ t, mg "BEGIN" = some (.int (0) t) := by
      refine' CI.const_mk KX G ?z_BEGIN; (case z_BEGIN => k_is)
    have g_ACT : ∃ t, mg "ACT" = some (.int (1) t) := by
      refine' CI.const_mk KX G ?z_ACT; (case z_ACT => k_is)
    have g_UNACT : ∃ t, mg "UNACT" = some (.int (2) t) := by
      refine' CI.const_mk KX G ?z_UNACT; (case z_UNACT => k_is)
    have g_TURN : ∃ t, mg "TURN" = some (.int (3) t) := by
      refine' CI.const_mk KX G ?z_TURN; (case z_TURN => k_is)
    have g_LOCK : ∃ t, mg "LOCK" = some (.int (4) t) := by
      refine' CI.const_mk KX G ?z_LOCK; (case z_LOCK => k_is)
    have g_ADDTWINS : ∃ t, mg "ADDTWINS" = some (.int (5) t) := by
      refine' CI.const_mk KX G ?z_ADDTWINS; (case z_ADDTWINS => k_is)
    have g_GO : ∃ t, mg "GO" = some (.int (12) t) := by
      refine' CI.const_mk KX G ?z_GO; (case z_GO => k_is)
    have g_IFGO : ∃ t, mg "IFGO" = some (.int (13) t) := by
      refine' CI.const_mk KX G ?z_IFGO; (case z_IFGO => k_is)
    have g_RUN : ∃ t, mg "RUN" = some (.int (14) t) := by
      refine' CI.const_mk KX G ?z_RUN; (case z_RUN => k_is)
    have g_MOST_LUCK : ∃ t, mg "MOST_LUCK" = some (.int (999) t) := by
      refine' CI.const_mk KX G ?z_MOST_LUCK; (case z_MOST_LUCK => k_is)
    have g_PROMISENEVER : ∃ t, mg "PROMISENEVER" = some (.int (19) t) := by
      refine' CI.const_mk KX G ?z_PROMISENEVER; (case z_PROMISENEVER => k_is)
    have g_PROMISESTAY : ∃ t, mg "PROMISESTAY" = some (.int (20) t) := by
      refine' CI.const_mk KX G ?z_PROMISESTAY; (case z_PROMISESTAY => k_is)
    have g_PROMISEWORTH : ∃ t, mg "PROMISEWORTH" = some (.int (21) t) := by
      refine' CI.const_mk KX G ?z_PROMISEWORTH; (case z_PROMISEWORTH => k_is)
    have g_PROMISEIS : ∃ t, mg "PROMISEIS" = some (.int (22) t) := by
      refine' CI.const_mk KX G ?z_PROMISEIS; (case z_PROMISEIS => k_is)
    have g_UNPROMISE : ∃ t, mg "UNPROMISE" = some (.int (23) t) := by
      refine' CI.const_mk KX G ?z_UNPROMISE; (case z_UNPROMISE => k_is)
    have g_HOLDS : ∃ t, mg "HOLDS" = some (.int (24) t) := by
      refine' CI.const_mk KX G ?z_HOLDS; (case z_HOLDS => k_is)
    have g_STAND : ∃ t, mg "STAND" = some (.int (6) t) := by
      refine' CI.const_mk KX G ?z_STAND; (case z_STAND => k_is)
    have g_WHO : ∃ t, mg "WHO" = some (.int (7) t) := by
      refine' CI.const_mk KX G ?z_WHO; (case z_WHO => k_is)
    have g_DOES : ∃ t, mg "DOES" = some (.int (8) t) := by
      refine' CI.const_mk KX G ?z_DOES; (case z_DOES => k_is)
    have g_LIGHTS : ∃ t, mg "LIGHTS" = some (.int (9) t) := by
      refine' CI.const_mk KX G ?z_LIGHTS; (case z_LIGHTS => k_is)
    have g_COST : ∃ t, mg "COST" = some (.int (10) t) := by
      refine' CI.const_mk KX G ?z_COST; (case z_COST => k_is)
    have g_LONELY : ∃ t, mg "LONELY" = some (.int (11) t) := by
      refine' CI.const_mk KX G ?z_LONELY; (case z_LONELY => k_is)
    have g_ENTRY : ∃ t, mg "ENTRY" = some (.int (15) t) := by
      refine' CI.const_mk KX G ?z_ENTRY; (case z_ENTRY => k_is)
    have g_PAID : ∃ t, mg "PAID" = some (.int (16) t) := by
      refine' CI.const_mk KX G ?z_PAID; (case z_PAID => k_is)
    have g_BECAME : ∃ t, mg "BECAME" = some (.int (17) t) := by
      refine' CI.const_mk KX G ?z_BECAME; (case z_BECAME => k_is)
    have g_STILL : ∃ t, mg "STILL" = some (.int (18) t) := by
      refine' CI.const_mk KX G ?z_STILL; (case z_STILL => k_is)
    have D := CI.ds_k (n := n) (mg := mg) KX (by
      refine ⟨?_, ?_, ?_, ?_, ?_, ?_, ?_, ?_, ?_, g_MOST_ACTS, g_MOST_STEPS, g_MOST_ENTRIES, g_MOST_PROMISES, g_NEVER, g_STAY, g_WORTH, g_NO_SUCH, g_NOT_BEGUN, g_ALREADY_PROMISED, g_NOT_AS_TOLD, g_FULL, g_NOT_KEPT, g_NO_ACT, g_BEGIN, g_ACT, g_UNACT, g_TURN, g_LOCK, g_ADDTWINS, g_GO, g_IFGO, g_RUN, g_MOST_LUCK, g_PROMISENEVER, g_PROMISESTAY, g_PROMISEWORTH, g_PROMISEIS, g_UNPROMISE, g_HOLDS, g_STAND, g_WHO, g_DOES, g_LIGHTS, g_COST, g_LONELY, g_ENTRY, g_PAID, g_BECAME, g_STILL, c_Act, c_Entry, c_House, d_furnish, d_is_begun, d_has_place, d_has_self, d_has_act, d_may_go, d_stand_behind, d_common_divisor, d_lowest, d_is_less, d_difference, d_all_stands, d_mean_behind, d_brings, d_best_act, d_act_done, d_nothing_brought, d_worths_there, d_one_step_more, d_worth_tables, d_worth_table, d_likely_one_step_more, d_likely_table, d_turns_there, d_never_turns, d_stands_behind, d_surely_stays, d_is_kept, d_would_be_kept, d_all_are_kept, d_is_twin, d_is_lonely, d_twin_of, d_lonely_acts, d_answer_change, d_begin, d_all_between, d_is_act_row, d_settle, d_put_act, d_take_act, d_set_turn, d_set_lock, d_add_twins, d_answer_going, d_place_by_luck, d_has_ended, d_next_entry, d_do_entry, d_tell_ahead, d_go, d_is_luck_row, d_run, d_answer_promising, d_put_promise, d_promise_never, d_promise_stay, d_is_worth_row, d_promise_worth, d_has_promise, d_tell_promise, d_take_promise, d_tell_holds, d_tell_count, d_answer_question, d_put_helper, d_tell_stand, d_tell_act, d_tell_lights, d_tell_cost, d_tell_lonely, d_answer_telling, d_tell_entry, d_tell_paid, d_tell_became, d_tell_still, d_answer_call, d_answers⟩ <;> (refine PySem.W.mg_none_of KX G ?_; k_is))
    have e := hmg.symm.trans D.d_answers.g
    cases e
    exact ⟨_, CI.bindsTo_of D.d_answers.F CI.b_answers, fun base _ _ => CI.ok_answers (k := 14) (by decide) D (CI.ok_answer_call D)⟩
  case S =>
    intro K H xs a hO hwi hask hx
    cases hx with
    | cons h1 h2 =>
      cases h2
      cases h1 with
      | lst hs ha =>
        have e := L2.ints_dw a.1 _ ha
        subst e
        have q : ((Codec.inLen 0 780 a.1 && a.1.all (Codec.inInt (-1000000000000000000000000000000) 1000000000000000000000000000000)) && true) = true := hwi
        rw [Bool.and_eq_true, Bool.and_eq_true] at q
        exact ⟨_, a.1, rfl, hs, (Codec.inNat_iff.mp q.1.1).2, hask, fun H' p hp => .lst (L2.SqL.of hp) (L2.dw_ints _)⟩
#print axioms PySem.Challenge.cw_changeditself_s01_answers_holds
