import PyProof.Rows.All
import Wide.All
import OpenK.AllK
import Wide.FinOn
import HandS.ForMost
import HandS.Flow
import HandS.IsInst
import HandS.Defaults
import HandS.Head0
import HandS.Head1
import HandS.Head2
import HandS.Head3
import HandS.HeadEnd
import HandS.HeadHook1
import HandS.HeadHook2
import HandS.HeadHook3
import HandS.HeadHook4
import HandS.FStr
import HandS.ExcInit
import HandS.ExcField
import HandS.ExcIs
import HandS.HotCalls
import HandS.Walk
import HandS.ClsMeth
import HandS.Style
import HandS.Codes
import HandS.TupMul
import HandS.TupAny
import HandS.Zip
import HandS.Evl
import KE.GoesMore
import PyProof.P3Eq
import HandS.Conv
import HandS.Deep
import HandS.Sort
import HandS.Dict
import KE.KDictKeyed
import KE.KDictDisplayH
import HandS.SetFor
import HandS.Zip0
import HandS.Iter
import PySem.Challenge.RW_stalestack_k11_asked_again
set_option Elab.async false
set_option linter.all false
set_option maxRecDepth 100000
set_option maxHeartbeats 0

/-! Words that do not hang on the program. -/
namespace Sk
open PySem PySem.Spec PyProof.Rows L2

abbrev FnP (K : PySem.W.Frag) (x q : Str) (st : Stmt) (f : Addr) (fd : FuncData) : Prop := FunD K x q (defArgs st) (defBody st) (defScope st) [] [] f fd

section
variable {P : Program} {w : World} {K : PySem.W.Frag} {mg : Str → Option Value} {base : Heap}
/-- a def that lets no exception out -/
theorem fok {x q : Str} {st : Stmt} {f : Addr} {fd : FuncData} {N ps : List Str} {k : Nat} {sp : Sp} (F : FnP K x q st f fd) (S : FnScope N ps (defScope st)) (len : ∀ vs H Q E, sp vs H Q E → vs.length = ps.length)
    (body : ∀ (cdv : Value) (A : Around) (outer : List Env) (s : Shared) (H : Hp) (vs : List V) (Q : VK) (E : XK), Room k (A.deeper (envOfC q (defScope st) s.heap.objs.size f cdv)) → sp vs H Q E →
      ∃ t, PSs (cxOf CX0 P w K mg base N q (defScope st) f cdv A outer s H E).nox (defBody st) t ∧ t { nx := fun _ H' => Q .non H', rt := Q } (start N vs) H) : FnOk P w K mg base CX0 (k + 1) f fd ps sp := by
  refine F.ok S len fun cdv A outer s H vs Q E hr h => ?_
  obtain ⟨t, h1, h2⟩ := body cdv A outer s H vs Q E hr h
  exact ⟨t, h1.nox, h2⟩
end

/-! ### heaps -/
/-- all but what stands at p is kept -/
def But (p : Addr) (H H' : Hp) : Prop := ∀ b o, b ≠ p → H b = some o → H' b = some o
theorem But.refl {p : Addr} {H : Hp} : But p H H := fun _ _ _ h => h
theorem But.trans {p : Addr} {H H1 H2 : Hp} (a : But p H H1) (b : But p H1 H2) : But p H H2 := fun c o n h => b c o n (a c o n h)
theorem But.upd {p : Addr} {H : Hp} {o : HO} : But p H (upd H p o) := fun b u n h => by rw [upd_ne n]; exact h
theorem But.of {p : Addr} {H H' : Hp} (s : Same H H') : But p H H' := fun b o _ h => s b o h
theorem ne_sh {H : Hp} {a b : Addr} {o u : HO} (h : H a = some o) (h' : H b = some u) (d : o ≠ u) : a ≠ b := ne_of h h' d
theorem But.free {p l : Addr} {H H' : Hp} {o : HO} (s : But p H H') (hp : H' p = some o) (h : H' l = none) : H l = none := by
  cases q : H l with
  | none => rfl
  | some u =>
    have n : l ≠ p := fun e => by
      rw [e, hp] at h
      cases h
    rw [s l u n q] at h
    cases h
theorem But.seq {K : PySem.W.Frag} {p a : Addr} {xs : List V} {H H' : Hp} (s : But p H H') (n : a ≠ p) (h : SqL K H a xs) : SqL K H' a xs := by
  rcases h with (h | ⟨o, h⟩) | h
  · exact .inl (.inl (s _ _ n h))
  · exact .inl (.inr ⟨o, s _ _ n h⟩)
  · exact .inr h
theorem But.tup {K : PySem.W.Frag} {p a : Addr} {xs : List V} {H H' : Hp} (s : But p H H') (n : a ≠ p) (h : SqT K H a xs) : SqT K H' a xs := by
  rcases h with (h | ⟨o, h⟩) | h
  · exact .inl (.inl (s _ _ n h))
  · exact .inl (.inr ⟨o, s _ _ n h⟩)
  · exact .inr h
theorem same_tup {K : PySem.W.Frag} {a : Addr} {xs : List V} {H H' : Hp} (s : Same H H') (h : SqT K H a xs) : SqT K H' a xs := by
  rcases h with (h | ⟨o, h⟩) | h
  · exact .inl (.inl (s _ _ h))
  · exact .inl (.inr ⟨o, s _ _ h⟩)
  · exact .inr h
theorem same_upd {H : Hp} {p : Addr} {o : HO} (h : H p = none) : Same H (upd H p o) := fun b u e => by
  rw [upd_ne (ne_of_none e h)]
  exact e

/-! ### the dice -/
/-- the script, out of the dice's reach -/
def ScAt (K : PySem.W.Frag) (H : Hp) (p a : Addr) (xs : List V) : Prop := (a ≠ p ∧ SqL K H a xs) ∨ ∀ H', SqL K H' a xs
theorem ScAt.seq {K : PySem.W.Frag} {H : Hp} {p a : Addr} {xs : List V} (h : ScAt K H p a xs) : SqL K H a xs := by
  rcases h with ⟨_, h⟩ | h
  · exact h
  · exact h H
theorem ScAt.but {K : PySem.W.Frag} {H H' : Hp} {p a : Addr} {xs : List V} (h : ScAt K H p a xs) (b : But p H H') : ScAt K H' p a xs := by
  rcases h with ⟨n, h⟩ | h
  · exact .inl ⟨n, b.seq n h⟩
  · exact .inr h
theorem ScAt.new {K : PySem.W.Frag} {H : Hp} {p a : Addr} {xs : List V} {o : HO} (h : SqL K H a xs) (n : H p = none) : ScAt K (upd H p o) p a xs := by
  have go : ∀ u, H a = some u → a ≠ p ∧ SqL K (upd H p o) a xs := fun u e => ⟨ne_of_none e n, (same_upd n).seq h⟩
  rcases h with (h | ⟨u, h⟩) | h
  · exact .inl (go _ h)
  · exact .inl (go _ h)
  · exact .inr fun H' => .inr h
/-- a list at p: the script (at a), the place, the mixed number, the rest -/
structure Dice (K : PySem.W.Frag) (H : Hp) (p a : Addr) (ns : List Int) : Prop where
  at_ : ∃ i m c : Int, H p = some (.lst [.ref a, .int i, .int m, .int c]) ∧ 0 ≤ i ∧ 0 ≤ m ∧ m < 2147483647
  sc : ScAt K H p a (ns.map V.int)
theorem Dice.some {K : PySem.W.Frag} {H : Hp} {p a : Addr} {ns : List Int} (d : Dice K H p a ns) : ∃ xs, H p = Option.some (.lst xs) := by
  obtain ⟨i, m, c, h, _⟩ := d.at_
  exact ⟨_, h⟩
/-- a new heap that holds the dice as it stood -/
theorem Dice.same {K : PySem.W.Frag} {H H' : Hp} {p a : Addr} {ns : List Int} (d : Dice K H p a ns) (s : Same H H') : Dice K H' p a ns := by
  obtain ⟨i, m, c, h, r⟩ := d.at_
  exact ⟨⟨i, m, c, s _ _ h, r⟩, d.sc.but (.of s)⟩
/-- what a draw from the dice at p leaves -/
structure Drew (K : PySem.W.Frag) (p a : Addr) (ns : List Int) (H H' : Hp) : Prop where
  d : Dice K H' p a ns
  b : But p H H'
theorem Drew.refl {K : PySem.W.Frag} {p a : Addr} {ns : List Int} {H : Hp} (d : Dice K H p a ns) : Drew K p a ns H H := ⟨d, .refl⟩
theorem Drew.trans {K : PySem.W.Frag} {p a : Addr} {ns : List Int} {H H1 H2 : Hp} (x : Drew K p a ns H H1) (y : Drew K p a ns H1 H2) : Drew K p a ns H H2 := ⟨y.d, x.b.trans y.b⟩
theorem Drew.same {K : PySem.W.Frag} {p a : Addr} {ns : List Int} {H H1 H2 : Hp} (x : Drew K p a ns H H1) (s : Same H1 H2) : Drew K p a ns H H2 := ⟨x.d.same s, x.b.trans (.of s)⟩
theorem Drew.free {K : PySem.W.Frag} {p a l : Addr} {ns : List Int} {H H' : Hp} (x : Drew K p a ns H H') (h : H' l = none) : H l = none := by
  obtain ⟨xs, e⟩ := x.d.some
  exact x.b.free e h
theorem Drew.ne {K : PySem.W.Frag} {p a l : Addr} {ns : List Int} {H H' : Hp} (x : Drew K p a ns H H') (h : H' l = none) : l ≠ p := fun e => by
  obtain ⟨xs, q⟩ := x.d.some
  rw [e, q] at h
  cases h
/-- a draw below n -/
def spNext (K : PySem.W.Frag) : Sp := fun vs H Q _ => ∃ (p a : Addr) (ns : List Int) (n : Int), vs = [.ref p, .int n] ∧ Dice K H p a ns ∧ 0 < n ∧ n < 1073741824 ∧
  ∀ (r : Int) (H' : Hp), 0 ≤ r → r < n → Drew K p a ns H H' → Q (.int r) H'
theorem dice_set {K : PySem.W.Frag} {H H1 : Hp} {p a : Addr} {ns : List Int} (d : Drew K p a ns H H1) {i m c : Int} (hi : 0 ≤ i) (h0 : 0 ≤ m) (h1 : m < 2147483647) {xs : List V} (e : xs = [.ref a, .int i, .int m, .int c]) : Drew K p a ns H (upd H1 p (.lst xs)) := by
  subst e
  exact ⟨⟨⟨i, m, c, upd_same, hi, h0, h1⟩, d.d.sc.but .upd⟩, d.b.trans .upd⟩
/-- the dice made -/
def spDice (K : PySem.W.Frag) : Sp := fun vs H Q _ => ∃ (a : Addr) (ns : List Int), vs = [.ref a] ∧ SqL K H a (ns.map V.int) ∧
  ∀ (p : Addr) (H' : Hp), H p = none → Same H H' → Dice K H' p a ns → Q (.ref p) H'
end Sk
namespace Sk
open PySem PySem.Spec PyProof.Rows L2
/-! ### data that are compared -/
/-- data of a depth below n, no dicts, short lists -/
inductive Fits : Nat → PyData → Prop
  | non (n : Nat) : Fits (n + 1) .none
  | bl (n : Nat) (b : Bool) : Fits (n + 1) (.bool b)
  | int (n : Nat) (i : Int) : Fits (n + 1) (.int i)
  | str (n : Nat) (x : Str) : Fits (n + 1) (.str x)
  | lst (n : Nat) {ds : List PyData} (l : ds.length ≤ 100000) (h : ∀ d ∈ ds, Fits n d) : Fits (n + 1) (.list ds)
  | tup (n : Nat) {ds : List PyData} (l : ds.length ≤ 100000) (h : ∀ d ∈ ds, Fits n d) : Fits (n + 1) (.tuple ds)
theorem DpAll.len {K : PySem.W.Frag} {H : Hp} : ∀ {vs : List V} {ds : List PyData}, DpAll K H vs ds → vs.length = ds.length
  | [], [], _ => rfl
  | _ :: _, _ :: _, h => by
    cases h with
    | cons h1 h2 => exact congrArg Nat.succ (DpAll.len h2)
  | [], _ :: _, h => by cases h
  | _ :: _, [], h => by cases h
theorem dpall_get {K : PySem.W.Frag} {H : Hp} {v : V} : ∀ (vs : List V) (ds : List PyData) (i : Nat), DpAll K H vs ds → vs[i]? = some v → ∃ d, ds[i]? = some d ∧ Dp K H v d
  | [], _, i, _, e => by simp at e
  | x :: vs, [], i, h, _ => by cases h
  | x :: vs, d :: ds, 0, h, e => by
    cases h with
    | cons h1 h2 =>
      have q : x = v := Option.some.inj e
      exact ⟨d, rfl, q ▸ h1⟩
  | x :: vs, d :: ds, i + 1, h, e => by
    cases h with
    | cons h1 h2 =>
      have e' : vs[i]? = some v := by simpa using e
      obtain ⟨d', q1, q2⟩ := dpall_get vs ds i h2 e'
      exact ⟨d', by simpa using q1, q2⟩
theorem DpAll.at_ {K : PySem.W.Frag} {H : Hp} {v : V} {vs : List V} {ds : List PyData} {i : Nat} (h : DpAll K H vs ds) (e : vs[i]? = some v) : ∃ d, ds[i]? = some d ∧ Dp K H v d := dpall_get vs ds i h e
def tyN : PyData → String
  | .none => "NoneType"
  | .bool _ => "bool"
  | .int _ => "int"
  | .str _ => "str"
  | .list _ => "list"
  | .tuple _ => "tuple"
  | .dict _ => "dict"
theorem sql_ty {K : PySem.W.Frag} {H : Hp} {a : Addr} {xs : List V} (h : SqL K H a xs) : TyX K H (.ref a) (.type "list") := by
  rcases h with (h | ⟨o, h⟩) | ⟨o, its, n, h, c, _⟩
  · exact .base (.lst h)
  · exact .base (.frz h)
  · exact .kList h c
theorem sqt_ty {K : PySem.W.Frag} {H : Hp} {a : Addr} {xs : List V} (h : SqT K H a xs) : TyX K H (.ref a) (.type "tuple") := by
  rcases h with (h | ⟨o, h⟩) | ⟨o, its, n, h, c, _⟩
  · exact .base (.tup h)
  · exact .fTuple h
  · exact .kTuple h c
theorem dp_ty {K : PySem.W.Frag} {H : Hp} {v : V} {d : PyData} (h : Dp K H v d) : TyX K H v (.type (tyN d)) := by
  cases h with
  | non => exact .base .non
  | bl b => exact .base (.bl b)
  | int i => exact .base (.int i)
  | str x => exact .base (.str x)
  | lst h _ => exact sql_ty h
  | tup h _ => exact sqt_ty h
/-- two that read as the same data: True -/
def spLike (K : PySem.W.Frag) (n : Nat) : Sp := fun vs H Q _ => ∃ (x y : V) (d : PyData), vs = [x, y] ∧ Dp K H x d ∧ Dp K H y d ∧ Fits n d ∧ Q (.bl true) H
theorem dec_self (x : V) : decide (x = x) = true := decide_eq_true rfl
theorem Fits.mono : ∀ {n m : Nat} {d : PyData}, Fits n d → n ≤ m → Fits m d
  | n + 1, 0, _, _, h => absurd h (Nat.not_succ_le_zero n)
  | n + 1, m + 1, _, .non _, _ => .non m
  | n + 1, m + 1, _, .bl _ b, _ => .bl m b
  | n + 1, m + 1, _, .int _ i, _ => .int m i
  | n + 1, m + 1, _, .str _ x, _ => .str m x
  | n + 1, m + 1, _, .lst _ l h, z => .lst m l fun d hd => (h d hd).mono (Nat.le_of_succ_le_succ z)
  | n + 1, m + 1, _, .tup _ l h, z => .tup m l fun d hd => (h d hd).mono (Nat.le_of_succ_le_succ z)
end Sk
namespace Sk
open PySem PySem.Spec PyProof.Rows L2
/-- a new object at D, stored to: the dice stand -/
theorem Drew.put {K : PySem.W.Frag} {p a D : Addr} {ns : List Int} {H H1 : Hp} {o : HO} (d0 : Dice K H p a ns) (x : Drew K p a ns H H1) (n : H D = none) (ne : D ≠ p) : Drew K p a ns H (upd H1 D o) := by
  have b : But p H (upd H1 D o) := fun c u q e => by
    rw [upd_ne (ne_of_none e n)]
    exact x.b c u q e
  obtain ⟨i, m, c, h, r⟩ := x.d.at_
  exact ⟨⟨⟨i, m, c, by rw [upd_ne (Ne.symm ne)]; exact h, r⟩, d0.sc.but b⟩, b⟩
end Sk
namespace Sk
open PySem PySem.Spec PyProof.Rows L2
/-- a comprehension without a test -/
theorem tyes {σ : L2.St} {H : Hp} {A B : Hp → Prop} (h : A H) : tYes σ H fun b H3 => if b = true then A H3 else B H3 := by
  show (if true = true then A H else B H)
  rw [if_pos rfl]
  exact h
end Sk


namespace Sk
open PySem PySem.Spec PyProof.Rows L2
/-- the top's statements by their places -/
def top (i : Nat) : Stmt := PySem.Challenge.pw_stalestack_k11_asked_again.main.body.getD i (.Pass ⟨0, 0, 0, 0⟩)
abbrev sInitP : Stmt := inClass (top 3) 0
abbrev sInitD : Stmt := inClass (top 4) 0
abbrev sIsVal : Stmt := top 11
abbrev sIsDeed : Stmt := top 12
abbrev sChkV : Stmt := top 13
abbrev sFirst : Stmt := top 14
abbrev sDo : Stmt := top 15
abbrev sSerial : Stmt := top 16
abbrev s_check_programs : Stmt := top 21
abbrev s_are_rising_hands : Stmt := top 22
abbrev s_is_rule : Stmt := top 23
abbrev s_check_pile_and_programs : Stmt := top 24
abbrev s_check_all : Stmt := top 25
abbrev s_ahead_of : Stmt := top 45
abbrev s_first_state : Stmt := top 46
abbrev s_replaced : Stmt := top 47
abbrev s_with_hand : Stmt := top 48
abbrev s_with_deed_done : Stmt := top 49
abbrev s_to_read_anew : Stmt := top 50
abbrev s_place_to_take : Stmt := top 51
abbrev s_take : Stmt := top 52
abbrev s_read : Stmt := top 53
abbrev s_link : Stmt := top 54
abbrev s_mark_or_look : Stmt := top 55
abbrev s_follow : Stmt := top 56
abbrev s_with_top : Stmt := top 57
abbrev s_exchange : Stmt := top 58
abbrev s_let_go : Stmt := top 59
abbrev s_step : Stmt := top 60
abbrev s_decides : Stmt := top 61
abbrev s_was_stale : Stmt := top 62
abbrev s_Machine_init : Stmt := inClass (top 64) 0
abbrev s_Machine_check_hand : Stmt := inClass (top 64) 1
abbrev s_Machine_turn : Stmt := inClass (top 64) 2
abbrev s_Machine_answers : Stmt := inClass (top 64) 3
abbrev s_Machine_marked : Stmt := inClass (top 64) 4
abbrev s_Machine_order : Stmt := inClass (top 64) 5
abbrev s_Machine_top_now : Stmt := inClass (top 64) 6
abbrev s_Machine_nexts : Stmt := inClass (top 64) 7
abbrev s_Machine_free : Stmt := inClass (top 64) 8
abbrev s_Machine_pile : Stmt := inClass (top 64) 9
abbrev s_Machine_pile_values : Stmt := inClass (top 64) 10
abbrev s_Machine_is_stale : Stmt := inClass (top 64) 11
abbrev s_Machine_is_done : Stmt := inClass (top 64) 12
abbrev s_is_safe_rule : Stmt := top 66
abbrev s_may_be_stale : Stmt := top 67
abbrev s_without_value : Stmt := top 68
abbrev s_weaving_to : Stmt := top 69
abbrev s_search : Stmt := top 70
abbrev s_first_stale : Stmt := top 71
abbrev s_stale : Stmt := top 72
abbrev s_safe_counts : Stmt := top 73
abbrev s_least_marks : Stmt := top 74
abbrev s_played : Stmt := top 76
abbrev s_whole : Stmt := top 77
abbrev sDice : Stmt := top 79
abbrev sNext : Stmt := top 80
abbrev sValues : Stmt := top 81
abbrev sDeed : Stmt := top 82
abbrev sProgs : Stmt := top 83
abbrev sRule : Stmt := top 84
abbrev sWeav : Stmt := top 85
abbrev s_law_few : Stmt := top 86
abbrev s_law_copied : Stmt := top 87
abbrev s_law_spoil : Stmt := top 88
abbrev s_law_case : Stmt := top 89
abbrev sTold : Stmt := top 90
abbrev sLaw : Stmt := top 91
def lawAt : Nat := 91
-- other names: ["combinations", "__name__", "PileError", "BadPile", "BadDeed", "BadRule", "NoHand", "MOST_VALUES", "HIGHEST_VALUE", "POP", "is_value", "is_deed", "check_values", "first_bad_deed", "do_deed", "serial", "MOST_HANDS", "MOST_DEEDS", "MOST_COUNTS", "check_programs", "are_rising_hands", "is_rule", "check_pile_and_programs", "check_all", "TOP", "COUNT", "NEXTS", "FREE", "VALUES", "HANDS", "NUMBER", "PHASE", "CELL", "TOP_READ", "COUNT_READ", "FOLLOWED", "MARK", "TO_READ", "HAS_READ", "HAS_LOOKED", "TO_EXCHANGE", "HAS_EXCHANGED", "ahead_of", "first_state", "replaced", "with_hand", "with_deed_done", "to_read_anew", "place_to_take", "take", "read", "link", "mark_or_look", "follow", "with_top", "exchange", "let_go", "step", "decides", "was_stale", "Machine", "is_safe_rule", "may_be_stale", "without_value", "weaving_to", "search", "first_stale", "stale", "safe_counts", "least_marks", "played", "whole", "_law_dice", "_law_next", "_law_values", "_law_deed", "_law_programs", "_law_rule", "_law_weaving", "_law_few", "_law_copied", "_law_spoil", "_law_case", "_law_told"]
end Sk


namespace Sk
open PySem PySem.Spec PyProof.Rows L2
abbrev RowK : PySem.W.OpenRow := PySem.W.OpenLaw.row PySem.Challenge.rw_stalestack_k11_asked_again
def dOf (x : Str) (st : Stmt) : He.DefD := ⟨(x, none), x, x, defArgs st, defBody st, defScope st, [], []⟩
def dMe (m : Str) (st : Stmt) : He.DefD := ⟨("Machine", some m), m, "Machine." ++ m, defArgs st, defBody st, defScope st, [], []⟩
def fnK : List He.DefD := ([dOf "is_value" sIsVal, dOf "is_deed" sIsDeed, dOf "check_values" sChkV, dOf "first_bad_deed" sFirst, dOf "do_deed" sDo, dOf "serial" sSerial, dOf "check_programs" s_check_programs, dOf "are_rising_hands" s_are_rising_hands, dOf "is_rule" s_is_rule, dOf "check_pile_and_programs" s_check_pile_and_programs, dOf "check_all" s_check_all, dOf "ahead_of" s_ahead_of, dOf "first_state" s_first_state, dOf "replaced" s_replaced, dOf "with_hand" s_with_hand, dOf "with_deed_done" s_with_deed_done, dOf "to_read_anew" s_to_read_anew, dOf "place_to_take" s_place_to_take, dOf "take" s_take, dOf "read" s_read, dOf "link" s_link, dOf "mark_or_look" s_mark_or_look, dOf "follow" s_follow, dOf "with_top" s_with_top, dOf "exchange" s_exchange, dOf "let_go" s_let_go, dOf "step" s_step, dOf "decides" s_decides, dOf "was_stale" s_was_stale, dOf "is_safe_rule" s_is_safe_rule] : List He.DefD) ++ ([dOf "may_be_stale" s_may_be_stale, dOf "without_value" s_without_value, dOf "weaving_to" s_weaving_to, dOf "search" s_search, dOf "first_stale" s_first_stale, dOf "stale" s_stale, dOf "safe_counts" s_safe_counts, dOf "least_marks" s_least_marks, dOf "played" s_played, dOf "whole" s_whole, dOf "_law_dice" sDice, dOf "_law_next" sNext, dOf "_law_values" sValues, dOf "_law_deed" sDeed, dOf "_law_programs" sProgs, dOf "_law_rule" sRule, dOf "_law_weaving" sWeav, dOf "_law_few" s_law_few, dOf "_law_copied" s_law_copied, dOf "_law_spoil" s_law_spoil, dOf "_law_case" s_law_case, dOf "_law_told" sTold, dOf "law" sLaw, dMe "__init__" s_Machine_init, dMe "check_hand" s_Machine_check_hand, dMe "turn" s_Machine_turn, dMe "answers" s_Machine_answers, dMe "marked" s_Machine_marked, dMe "order" s_Machine_order, dMe "top_now" s_Machine_top_now] : List He.DefD) ++ ([dMe "nexts" s_Machine_nexts, dMe "free" s_Machine_free, dMe "pile" s_Machine_pile, dMe "pile_values" s_Machine_pile_values, dMe "is_stale" s_Machine_is_stale, dMe "is_done" s_Machine_is_done] : List He.DefD)
def faK : List He.Fa := ([.glo "PileError", .glo "BadPile", .glo "BadDeed", .glo "BadRule", .glo "NoHand", .glo "POP", .glo "is_value", .glo "is_deed", .glo "check_values", .glo "first_bad_deed", .glo "do_deed", .glo "serial", .glo "check_programs", .glo "are_rising_hands", .glo "is_rule", .glo "check_pile_and_programs", .glo "check_all", .glo "ahead_of", .glo "first_state", .glo "replaced", .glo "with_hand", .glo "with_deed_done", .glo "to_read_anew", .glo "place_to_take", .glo "take", .glo "read", .glo "link", .glo "mark_or_look", .glo "follow", .glo "with_top"] : List He.Fa) ++ ([.glo "exchange", .glo "let_go", .glo "step", .glo "decides", .glo "was_stale", .glo "Machine", .glo "is_safe_rule", .glo "may_be_stale", .glo "without_value", .glo "weaving_to", .glo "search", .glo "first_stale", .glo "stale", .glo "safe_counts", .glo "least_marks", .glo "played", .glo "whole", .glo "_law_dice", .glo "_law_next", .glo "_law_values", .glo "_law_deed", .glo "_law_programs", .glo "_law_rule", .glo "_law_weaving", .glo "_law_few", .glo "_law_copied", .glo "_law_spoil", .glo "_law_case", .glo "_law_told", .glo "law"] : List He.Fa) ++ ([.int "MOST_VALUES" 6, .int "HIGHEST_VALUE" 99, .int "MOST_HANDS" 3, .int "MOST_DEEDS" 4, .int "MOST_COUNTS" 15, .int "TOP" 0, .int "COUNT" 1, .int "NEXTS" 2, .int "FREE" 3, .int "VALUES" 4, .int "HANDS" 5, .int "NUMBER" 0, .int "PHASE" 1, .int "CELL" 2, .int "TOP_READ" 3, .int "COUNT_READ" 4, .int "FOLLOWED" 5, .int "MARK" 6, .int "TO_READ" 0, .int "HAS_READ" 1, .int "HAS_LOOKED" 2, .int "TO_EXCHANGE" 3, .int "HAS_EXCHANGED" 4, .free "len", .free "int", .free "isinstance", .free "bool", .free "str", .free "dict", .free "tuple"] : List He.Fa) ++ ([.free "list", .free "range", .free "enumerate", .free "zip", .free "ValueError", .free "sum", .free "min", .free "max", .free "sorted", .free "any", .free "all", .cls "Machine", .mkr "Machine", .noat "Machine" "programs", .noat "Machine" "rule", .noat "Machine" "state", .noat "Machine" "answered", .noat "Machine" "decided", .noat "Machine" "had_stale", .meth "Machine" "check_hand", .meth "Machine" "turn", .meth "Machine" "answers", .meth "Machine" "marked", .meth "Machine" "order", .meth "Machine" "top_now", .meth "Machine" "nexts", .meth "Machine" "free", .meth "Machine" "pile", .meth "Machine" "pile_values", .meth "Machine" "is_stale"] : List He.Fa) ++ ([.meth "Machine" "is_done"] : List He.Fa)
def combB (K : PySem.W.Frag) : Bool := He.eqO (PySem.W.nsIn K mainGlobals "combinations") (some (some (.type "itertools.combinations")))
def exK (K : PySem.W.Frag) : List Bool := [He.tupB K "POP" [.str "pop"], combB K]
abbrev AlR : Type := He.AlD × Bool
/-- the names' reach and the statics -/
def asR (g : Addr → Option Obj) (n : Nat) : List Addr := PySem.cStatics :: He.asD g n
def obsR (n : Nat) (fa : List He.Fa) (fn : List He.DefD) (ex : PySem.W.Frag → List Bool) (g : Addr → Option Obj) : AlR := (He.obsD fa fn (He.frG g (asR g n)), (ex (He.frG g (asR g n))).all id)
structure SaysR (fa : List He.Fa) (fn : List He.DefD) (ex : PySem.W.Frag → List Bool) (K : PySem.W.Frag) : Prop where
  d : He.SaysD fa fn K
  more : (ex K).all id = true
theorem SaysR.ex {fa : List He.Fa} {fn : List He.DefD} {ex : PySem.W.Frag → List Bool} {K : PySem.W.Frag} (c : SaysR fa fn ex K) {b : Bool} (h : b ∈ ex K) : b = true := List.all_eq_true.mp c.more b h
def hookR (n : Nat) (fa : List He.Fa) (fn : List He.DefD) (ex : PySem.W.Frag → List Bool) : PySem.W.Hook where
  α := AlR
  obs := fun s => obsR n fa fn ex s.heap.get?
  val := fun _ => (He.valD fn, true)
  says := fun _ h => ∃ K : PySem.W.Frag, K.In h ∧ SaysR fa fn ex K
  of := fun _ _ e => ⟨_, He.frG_in, congrArg (fun z : AlR => z.1) e, congrArg (fun z : AlR => z.2) e⟩
  keeps := fun _ _ _ ⟨K, hK, c⟩ k => ⟨K, PySem.W.Frag.In.keeps hK k, c⟩
theorem obsR_eq {n : Nat} {fa : List He.Fa} {fn : List He.DefD} {ex : PySem.W.Frag → List Bool} {g : Addr → Option Obj} {s : Shared} (h : ∀ a, g a = s.heap.get? a) : obsR n fa fn ex g = (hookR n fa fn ex).obs s := by
  rw [show g = s.heap.get? from funext h] <;> rfl
abbrev hkK : PySem.W.Hook := hookR 6 faK fnK exK
def obK (s : PySem.W.SharedT) : AlR := obsR 6 faK fnK exK (HandSHeadRun.getT s)
theorem obK_eq (s : PySem.W.SharedT) : obK s = hkK.obs s.abs := obsR_eq (HandSHeadRun.getT_eq s)
def looseK : List Str := (["combinations", "__name__", "PileError", "BadPile", "BadDeed", "BadRule", "NoHand", "MOST_VALUES", "HIGHEST_VALUE", "POP", "is_value", "is_deed", "check_values", "first_bad_deed", "do_deed", "serial", "MOST_HANDS", "MOST_DEEDS", "MOST_COUNTS", "check_programs", "are_rising_hands", "is_rule", "check_pile_and_programs", "check_all", "TOP", "COUNT", "NEXTS", "FREE", "VALUES", "HANDS"] : List Str) ++ (["NUMBER", "PHASE", "CELL", "TOP_READ", "COUNT_READ", "FOLLOWED", "MARK", "TO_READ", "HAS_READ", "HAS_LOOKED", "TO_EXCHANGE", "HAS_EXCHANGED", "ahead_of", "first_state", "replaced", "with_hand", "with_deed_done", "to_read_anew", "place_to_take", "take", "read", "link", "mark_or_look", "follow", "with_top", "exchange", "let_go", "step", "decides", "was_stale"] : List Str) ++ (["Machine", "is_safe_rule", "may_be_stale", "without_value", "weaving_to", "search", "first_stale", "stale", "safe_counts", "least_marks", "played", "whole", "_law_dice", "_law_next", "_law_values", "_law_deed", "_law_programs", "_law_rule", "_law_weaving", "_law_few", "_law_copied", "_law_spoil", "_law_case", "_law_told"] : List Str)
theorem runK (w : World) : HandSHeadRun.RunEqI RowK (PySem.W.view RowK.prog [0, 91]) hkK obK 20000 looseK w := by
  unfold HandSHeadRun.RunEqI
  kernel_rfl
end Sk


/-! Own errors: made where nothing is handled, their base's __init__ called by its class's name. -/
namespace Sk
open PySem PySem.Spec PyProof.Rows L2
/-- B is an own class whose __init__ is that of ValueError -/
structure BaseI (K : PySem.W.Frag) (B : Addr) (mc : Value) : Prop where
  rd : PySem.W.readsIn K B mc = true
  ga : PySem.W.specialIn K (.ref B) "__getattribute__" = some (some (.builtin "type.__getattribute__"))
  at_ : PySem.W.findCls K (.ref B) mc "__init__" = some (.val (.builtin "ValueError.__init__"))
section
variable {X : Cx} {e : Expr} {es : List Expr} {ta : TA} {p1 p2 pos : Pos} {x : Str} {B : Addr} {mc : Value}
theorem pe_ownInit {pl : Sem Bool} (hg : Gl X x) (hm : X.mg x = some (.ref B)) (T : BaseI X.K B mc) (ha : PA X (e :: es) ta) (hdb : (x == ("__debug__" : Str)) = false := by decide)
    (hform : eval (.Call (.Attribute (.Name x p1) "__init__" p2) (e :: es) [] pos) X.env = (do
      let ov ← eval (.Name x p1) X.env
      standAt p2.atName
      let (g, first) ← holding [ov] (getMethod ov "__init__" pl)
      callWith pos g first (backTo pos (starEach (e :: es) X.env)) (backToKw pos (keywordEach [] X.env))) := by rfl)
    (hst : starEach (e :: es) X.env = (false, eval e X.env) :: starEach es X.env := by rfl) (hno : (backTo pos (starEach es X.env)).any (·.1) = false := by rfl) :
    PE X (.Call (.Attribute (.Name x p1) "__init__" p2) (e :: es) [] pos) (tVeI X.K ta) := by
  refine ⟨fun pins s σ H Q I h => PySem.W.methodCall_KW (ld_glob I hg hm ?_ hdb) hform⟩
  refine PySem.W.method_cls I.kIn T.ga (PySem.W.cls_value I.kIn T.rd T.at_ (by decide +kernel) ?_)
  show wpAny _ _ (callWith pos (Value.builtin "ValueError.__init__") [] (backTo pos (starEach (e :: es) X.env)) []) _ _ _
  refine PyProof.Rows.callWith_method1 (thn (ha.run pos pins _ σ H _ (I.tok _) h) fun us s1 z => ?_) hst hno
  obtain ⟨vs, H1, I1, r1, a, C, ws, ev, hl, TC, ea, q⟩ := z
  subst ev
  cases r1 with
  | @cons _ u0 _ ur ra rw' =>
    have e0 : u0 = Value.ref a := ra
    subst e0
    have hz : ur.length ≤ sizeLine := by
      have := Paired.length rw'
      rw [sizeLine_eq]
      omega
    exact oinit_ok TC I1 ea hz fun s' J => ⟨.non, H1, J, rfl, q⟩
end
/-- an own error of the class x, made where nothing is handled: its context is None -/
theorem pmkN {X : Cx} {CX : CXT} {x : Str} {C fI : Addr} {k : Nat} {fd : FuncData} {ps : List Str} {sp : Sp} {e : Expr} {es : List Expr} {ta : TA} {p pos : Pos} (T : OexC X.K C)
    (hi : PySem.W.findIn X.K (.ref C) "__init__" = some (some (.ref fI))) (ht : PySem.W.typeIn X.K (.ref fI) = some (.type "function"))
    (FI : FnOk X.prog X.w X.K X.mg X.base CX k fI fd ps sp) (hr : Room (k + 1) X.A) (hb : Binds X.K fd ps []) (hx : Passes CX X E0) (hg : Gl X x) (hm : X.mg x = some (.ref C)) (ha : PA X (e :: es) ta)
    (hdb : (x == ("__debug__" : Str)) = false := by decide) (hst : starEach (e :: es) X.env = (false, eval e X.env) :: starEach es X.env := by rfl) (hno : (backTo pos (starEach es X.env)).any (·.1) = false := by rfl) :
    L2N.PMk X (.Call (.Name x p) (e :: es) [] pos) (tMkO C sp [] ta) := by
  intro pins s σ H Q I h
  obtain ⟨nm, q, N, bs, bm, sn, sub, ab, col, dd, k0, k1, k2, k3, k5, hC, hbm⟩ := T.cls
  refine wpAny_Call_Name_kw (ld_glob I hg hm ?_ hdb)
  refine PySem.W.callWith_K (h₀ := X.base) I.ok.mod.kin T.kC (thn (ha.run pos pins s σ H _ I h) fun us s1 z => ?_) hst hno
  obtain ⟨vs, H1, I1, r1, hz, q1⟩ := z
  refine ⟨I1.kIn, ?_⟩
  show wpAny _ _ (call (.ref C) us) _ _ _
  obtain ⟨hp, g, dr, tk, os⟩ := s1
  let a := hp.objs.size + 1
  have la : hp.objs.size ≤ a := Nat.le_succ _
  have na : H1 a = none := I1.hok.fresh la
  have hq := q1 a na
  rw [List.append_nil] at hq
  let h2 := (hp.push (PySem.W.kdv_tup us)).push (PySem.HandSPX.excO C hp.objs.size)
  have kk : ∀ b o, hp.get? b = some o → h2.get? b = some o := fun b o z => Heap.get?_push_of_some _ (Heap.get?_push_of_some _ z)
  have there : h2.get? a = some (PySem.HandSPX.excO C hp.objs.size) := by
    show ((hp.push (PySem.W.kdv_tup us)).push (PySem.HandSPX.excO C hp.objs.size)).get? (hp.objs.size + 1) = _
    heap_get
  have I2 : Inv X pins σ (upd H1 a (exo a C none)) ⟨h2, g, dr, tk, os⟩ := I1.laid (t' := tk) (a := a) (o := exo a C none) (h' := h2) kk la (exo_ok there)
  have r2 : Vals (V.ref a :: vs) (Value.ref a :: us) := .cons rfl r1
  have hlen : (Value.ref a :: us).length = ps.length := by
    rw [← r2.length]
    exact FI.len _ _ _ _ hq
  have hus : us.length ≤ sizeLine := by
    have := Paired.length r1
    rw [sizeLine_eq]
    omega
  have hbind := hb ⟨h2, g, dr, tk, os⟩ (Value.ref a :: us) I2.kIn (by rw [List.append_nil]; exact hlen)
  rw [List.append_nil] at hbind
  refine wpAny_call (PySem.HandSPX.call_own F.excBase_ValueError (fun Y => PySem.HandSPX.refsVE_contains Y bm hbm) (I1.kIn _ _ hC) (PySem.W.looks_findIn I1.kIn hi) (fun self => PySem.W.bind_fn I1.kIn self ht) hus
    (codeAny_mono (FI.run _ X.stack _ _ ⟨Value.ref a :: us, []⟩ (Value.ref a :: us) _ _ E0 (hr.make C us []) (I2.env0.make C us []) hbind r2 hq) fun r s' hq' => ?_))
  cases r with
  | error er => exact hx pins σ _ _ er s' I2 hq'
  | ok fl =>
    cases fl with
    | ret u =>
      obtain ⟨v, H2, os2, bare2, un2, hok2, rv, ev, d, fs, ea, ed, hd1, q2⟩ := hq'
      subst ev
      obtain ⟨h3, g2, d2, t2, os'⟩ := s'
      obtain ⟨t0, G, J, kG, ge, hoe, nd⟩ := mk_end0 (d2 := d2) (t2 := t2) I1 la kk un2 hok2 os2 bare2 ea ed hd1
      exact ⟨rv, a, _, _, ⟨G, g2, d2, t2, os'⟩, _, .ref C, some d, rfl, J, kG, ge, hoe, ⟨rfl, rfl, fun vs z => by cases z; rfl⟩, rfl, rfl, nd, rfl, bare2, raises_own T.exC T.tyC, q2⟩
    | next => exact False.elim hq'
    | brk => exact False.elim hq'
    | cont => exact False.elim hq'
end Sk


/-! Where an error is being handled: lists walked, comprehensions, defs that are told which error it is. -/
namespace Sk
open PySem PySem.Spec PyProof.Rows L2 L2H HotX
/-- a list's iterator at its end, while an error is handled -/
theorem list_end_hot {prog : Program} {w : World} {A : Around} {E : Value → Shared → Prop} {s : Shared} {it l x1 : Addr} {i : Nat} {items : Array Value} {Q : Option Value → Shared → Prop} (hot : HotAt A x1 s.heap) (nx : x1 ≠ it)
    (hit : s.heap.IsListIter it l i) (hl : s.heap.IsList l items) (hx : items[i]? = none) (q : ∀ h', (∀ b o, b ≠ it → s.heap.get? b = some o → h'.get? b = some o) → Q none { s with heap := h' }) : wpAny (model prog w) A (pyNext (.ref it)) Q E s := by
  obtain ⟨oi, e1, e2, e3⟩ := id hit
  obtain ⟨ol, f1, _, nl, f2⟩ := hl
  obtain ⟨hh, o1, v1, g1, g2, g3⟩ := hot
  have li : it < s.heap.objs.size := Heap.lt_size e1
  unfold pyNext
  refine wpAny_bind (wpAny_attempt (wpAny_callSpecial?_slot (name := Str.ofString "__next__") hit.typeIs slot_listiter_next (wpAny_call_entry slot_listiter_next hit.typeIs entry_listiter_next ?_ (args_listiter_next _))))
  show wpAny _ _ (field (.ref it) 0 >>= _) _ _ s
  refine wpAny_bind (wpAny_field e1 e3 (x := .ref l) rfl ?_)
  show wpAny _ _ (if (Value.ref l == Value.none) = true then _ else _) _ _ s
  rw [if_neg (by simp)]
  show wpAny _ _ (field (.ref it) 1 >>= _) _ _ s
  refine wpAny_bind (wpAny_field e1 e3 (x := .int i 0) rfl ?_)
  show wpAny _ _ (seqItems? (.ref l) >>= _) _ _ s
  refine wpAny_bind (wpAny_seqItems f1 f2 ?_)
  simp only [Int.toNat_natCast, hx]
  refine wpAny_bind (wpAny_rule (wpAny_bind (wpAny_setField e1 e3 (by simp) ?_)))
  show wpAny _ _ (newExc (.type "StopIteration") [] >>= _) _ _ _
  refine wpAny_bind ?_
  simp only [newExc, newTuple]
  refine wpAny_bind (wpAny_newObj_type ?_ (by size_fits))
  refine wpAny_bind (m := firstArgMember _ _) (wpAny_of_eq (a := Value.none) (by first | rfl | (simp only [firstArgMember]; rfl)) ?_)
  refine wpAny_newObj_type ?_ (by size_fits)
  have g1' := (Heap.SameBut.update s.heap it (Obj.mapFields (·.setIfInBounds 0 Value.none))).2 x1 nx
  refine raiseNew_hot ⟨hh, o1, v1, Heap.get?_push_of_some _ (Heap.get?_push_of_some _ (g1'.trans g1)), g2, g3⟩ (Nat.ne_of_lt (Heap.lt_size (Heap.get?_push_of_some _ (g1'.trans g1)))) (Heap.get?_push_size _ rfl) rfl
    (by first | (simp; done) | (simp; omega) | (simp only [Array.size_append]; simp; omega)) ?_
  refine wpAny_bind (wpAny_isInstance (T := "StopIteration") (b := true) ⟨_, Heap.get?_update_self _ (Heap.get?_push_size _ rfl) rfl, rfl⟩ isSubtype_stop ?_)
  refine wpAny_pure (q _ fun b o nb e => ?_)
  have e' := ((Heap.SameBut.update s.heap it (Obj.mapFields (·.setIfInBounds 0 Value.none))).2 b nb).trans e
  rw [Heap.get?_update_other _ _ (Nat.ne_of_gt (Heap.lt_size (Heap.get?_push_of_some _ e')))]
  exact Heap.get?_push_of_some _ (Heap.get?_push_of_some _ e')
end Sk
namespace Sk
open PySem PySem.Spec PyProof.Rows L2 L2H HotX
section
variable {X : Cx} {elt tg iter : Expr} {scope : Scope} {own : List (Str × Nat)} {pos : Pos} {tl te : TE} {g : TG}
/-- [elt for target in a list], while an error is handled -/
theorem pe_lcHot (hot : HotC X) (hN : X.N.Nodup) (hl : PE X iter tl) (ok : BlkOk X.N X.env.scope scope own)
    (hg : ∀ (s : Shared) (H : Hp) (C : Addr) (cl : List (Str × Addr)) (fp : List Addr), PG (X.blk s H scope (compEnvC scope cl C X.env) fp) tg g)
    (he : ∀ (s : Shared) (H : Hp) (C : Addr) (cl : List (Str × Addr)) (fp : List Addr), PE (X.blk s H scope (compEnvC scope cl C X.env) fp) elt te)
    (hs : ∀ x, foldedSetIterable iter X.env x = pure x := by intro _; rfl) :
    PE X (.ListComp elt [⟨tg, iter, [], 0⟩] scope pos) (tLc (iList X.K tl) g tYes te (own.map (·.2))) := by
  refine ⟨fun pins s σ H Q I h => ?_⟩
  obtain ⟨p, ⟨hand, v1, pd, pc⟩, pin⟩ := id hot
  have caps : ∀ y ∈ scope.names, y.2 = .free → ∃ c, X.env.cells.lookup y.1 = some c := fun y hy e => (ok.free y hy e).elim (fun k => I.ok.has _ (.inl k)) fun k => I.ok.has _ (.inr k)
  rw [eval_ListComp]
  refine wpAny_comprehension_free (use := none) rfl hs (closure_ok caps) ok.kind (fun y hy e => by rw [ok.uniq y hy, e]) (thn (hl.run pins s σ H _ I h) fun v0 s1 z => ?_)
  obtain ⟨x0, H1, I1, r0, a, ea, ⟨xs0, hq0⟩, q⟩ := z
  subst ea
  cases r0
  obtain ⟨its0, _, pl0, _⟩ := I1.list hq0
  refine wpAny_pyIter_list pl0.isList (wpAny_newObj_type (newEnv_comp ?_) (by show 0 ≤ sizeLine; decide))
  -- the iterator at t, the new list at D
  obtain ⟨t, ht⟩ : ∃ t, t = s1.heap.objs.size := ⟨_, rfl⟩
  obtain ⟨sA, hA⟩ : ∃ sA : Shared, sA = { s1 with heap := s1.heap.push { cls := .type "list_iterator", data := .fields #[.ref a, .int 0 0] } } := ⟨_, rfl⟩
  rw [← ht, ← hA]
  have IA : Inv X pins σ H1 sA := by
    rw [hA]
    exact I1.kept (t' := s1.toks) fun b o e => Heap.get?_push_of_some _ e
  have itA : sA.heap.IsListIter t a 0 := by
    rw [hA, ht]
    exact ⟨_, Heap.get?_push_size _ rfl, rfl, rfl⟩
  have okA : FpOk X pins H1 t := by
    rw [ht]
    exact I1.fpOk (Nat.le_refl _) (I1.hok.fresh (Nat.le_refl _))
  obtain ⟨D, hD⟩ : ∃ D, D = sA.heap.objs.size := ⟨_, rfl⟩
  have nD : H1 D = none := IA.hok.fresh (Nat.le_of_eq hD.symm)
  have lt : t < sA.heap.objs.size := by
    obtain ⟨_, e, _⟩ := itA
    exact Heap.lt_size e
  have tD : t ≠ D := by
    rw [hD]
    exact Nat.ne_of_lt lt
  obtain ⟨W, ⟨m0, w0⟩, turn⟩ := q D nD
  obtain ⟨sB, hB⟩ : ∃ sB : Shared, sB = { sA with heap := sA.heap.push { cls := .type "list", data := .seq ([] : List Value).toArray } } := ⟨_, rfl⟩
  rw [← hD, ← hB]
  obtain ⟨HB, eHB⟩ : ∃ HB : Hp, HB = upd H1 D (.lst []) := ⟨_, rfl⟩
  rw [← eHB] at w0
  have IB : Inv X pins σ HB sB := by
    rw [eHB, hB]
    refine IA.laid (t' := sA.toks) (fun b o e => Heap.get?_push_of_some _ e) (Nat.le_of_eq hD.symm) ⟨Nat.zero_le _, [], 0, .nil, ?_⟩
    rw [hD]
    exact Heap.get?_push_size _ rfl
  have itB : sB.heap.IsListIter t a 0 := itA.at fun o e => by
    rw [hB]
    exact Heap.get?_push_of_some _ e
  have nB : HB t = none := by
    rw [eHB, upd_ne tD]
    exact okA.1
  have okB : FpOk X pins HB t := ⟨nB, okA.2⟩
  have ltB : t < sB.heap.objs.size := by
    obtain ⟨_, e, _⟩ := itB
    exact Heap.lt_size e
  have fB : ∀ b ∈ [t], FpOk X pins HB b ∧ b < sB.heap.objs.size := fun b hb => by
    obtain rfl : b = t := by simpa using hb
    exact ⟨okB, ltB⟩
  -- the handled error
  have pinB := IB.pin p (List.mem_append_left _ pin)
  have pt : p.1 ≠ t := okB.2.2.2.2.2 p (List.mem_append_left _ pin)
  have I4 := block_start IB ok hN fB
  have pg := hg sB HB sB.heap.objs.size (cellsFrom (sB.heap.objs.size + 1) scope.names (cloFrom X.env.cells scope.names [])) [t]
  have pe := he sB HB sB.heap.objs.size (cellsFrom (sB.heap.objs.size + 1) scope.names (cloFrom X.env.cells scope.names [])) [t]
  show codeAny _ _ (.compStart (.ListComp elt [⟨tg, iter, [], 0⟩] scope pos) 0 (.ref t) (.ref D) (compEnvC scope (cellsFrom (sB.heap.objs.size + 1) scope.names (cloFrom X.env.cells scope.names [])) sB.heap.objs.size X.env))
    (compPost (model X.prog X.w) X.A X.xe none (EP X pins σ Q) (.ref D) sB.heap.objs.size) { sB with heap := pushCells (sB.heap.push { cls := .type "dict", data := .dict #[] }) scope.names }
  obtain ⟨ce, ece⟩ : ∃ ce, ce = compEnvC scope (cellsFrom (sB.heap.objs.size + 1) scope.names (cloFrom X.env.cells scope.names [])) sB.heap.objs.size X.env := ⟨_, rfl⟩
  rw [← ece] at I4 pg pe ⊢
  have lce : ce.locals = sB.heap.objs.size := by
    rw [ece]
    rfl
  obtain ⟨sC, hC⟩ : ∃ sC : Shared, sC = { sB with heap := pushCells (sB.heap.push { cls := .type "dict", data := .dict #[] }) scope.names } := ⟨_, rfl⟩
  rw [← hC] at I4 ⊢
  have itC : sC.heap.IsListIter t a 0 := itB.at fun o e => by
    rw [hC]
    exact pushCells_keeps _ _ _ _ (Heap.get?_push_of_some _ e)
  -- within the block
  have fpk : ∀ {σ' : L2.St} {H' : Hp} {s' : Shared}, Inv (X.blk sB HB scope ce [t]) [] σ' H' s' → H' t = none → FpOk (X.blk sB HB scope ce [t]) [] H' t := fun {σ' H' s'} J hn =>
    have m : t ∈ [t] := List.mem_singleton_self t
    ⟨hn, (J.ok.exf t m).1, J.ok.exfs t m, .inl m, fun x c e => (J.ok.exf t m).2 x c e, fun r hr => absurd (show r ∈ ([] : List (Addr × Obj)) ++ [] from hr) (by simp)⟩
  have hotIn : ∀ {σ' : L2.St} {H' : Hp} {s' : Shared}, Inv (X.blk sB HB scope ce [t]) [] σ' H' s' → HotAt X.A p.1 s'.heap := fun {σ' H' s'} J =>
    ⟨hand, p.2, v1, J.base.keep p.1 p.2 pinB.1 pinB.2.1 (fun z => (List.mem_cons.mp (IB.stkSub p.1 (by exact z))).elim pinB.2.2.1 pinB.2.2.2.1) (fun z => pt (by simpa using (show p.1 ∈ [t] from z))), pd, pc⟩
  have loop : codeAny (model X.prog X.w) X.A (.compLoop (.ListComp elt [⟨tg, iter, [], 0⟩] scope pos) 0 (.ref t) (.ref D) ce) (compPost (model X.prog X.w) X.A X.xe none (EP X pins σ Q) (.ref D) sB.heap.objs.size) sC := by
    refine compLoop_any (fun n s' => ∃ i H', Inv (X.blk sB HB scope ce [t]) [] (wipe σ (own.map (·.2))) H' s' ∧ s'.heap.IsListIter t a i ∧ H' t = none ∧ W i n H') ?_ m0 ⟨0, HB, I4, itC, nB, w0⟩
    rintro n s5 ⟨i, H5, I5, it5, n5, w5⟩
    have F5 := fpk I5 n5
    obtain ⟨f0, f1, f2, f3, f4, f5⟩ := F5
    rcases turn i n H5 w5 with ⟨⟨xs, hq, hx⟩, qq⟩ | ⟨⟨xs, x, hq, hx⟩, Nx, hNx, step⟩
    · obtain ⟨its, rv, pl, _⟩ := I5.list hq
      have lv := rv.length
      refine list_end_hot (hotIn I5) pt it5 pl.isList (by simp; omega) fun h' kp => ?_
      have I6 : Inv (X.blk sB HB scope ce [t]) [] (wipe σ (own.map (·.2))) H5 { s5 with heap := h' } := I5.turned (t' := s5.toks) kp f0 f1 f3 f4 f5
      have I7 : Inv X pins σ H5 { s5 with heap := h' } := IB.call' (ch := [t]) I6.os I6.base I6.hok I6.bare fun b hb => ⟨(fB b hb).1.2.2.2.1, (fB b hb).1.2.1, (fB b hb).1.2.2.2.2.1, (fB b hb).1.2.2.2.2.2⟩
      have nC : H5 sB.heap.objs.size = none := by
        have z : H5 ce.locals = none := I6.free
        rw [lce] at z
        exact z
      obtain ⟨m, hn, _⟩ := I6.loc
      have hn' : h'.Ns sB.heap.objs.size m := by
        rw [← lce]
        exact hn
      refine ⟨m, hn', fun h2 sb => ?_⟩
      obtain ⟨u0, u1, _, u3, u4, u5⟩ := IB.fpOk (Nat.le_refl _) nC
      exact ⟨.ref D, H5, I7.turned (t' := s5.toks) (fun b o hb e => (sb.2 b hb).trans e) u0 u1 u3 u4 u5, rfl, qq⟩
    · obtain ⟨its, rv, pl, _⟩ := I5.list hq
      obtain ⟨u, hu, ru⟩ := rv.get hx
      refine wpAny_pyNext_list_item it5 pl.isList (x := u) (by simpa using hu) fun h' it6 sb => ?_
      have I6 : Inv (X.blk sB HB scope ce [t]) [] (wipe σ (own.map (·.2))) H5 { s5 with heap := h' } := I5.turned (t' := s5.toks) (fun b o hb e => (sb.2 b hb).trans e) f0 f1 f3 f4 f5
      obtain ⟨oi, e1, e2, e3⟩ := id it6
      refine go_of (s := { s5 with heap := h' }) e1 e2 e3 (by decide) ?_
      have I6' := I6.pinned (fp := [t]) (fun b hb => by
        obtain rfl : b = t := by simpa using hb
        exact fpk I6 n5) (fun b hb => by
        obtain rfl : b = t := by simpa using hb
        exact ⟨oi, e1, fun v z => by rw [e3] at z; cases z⟩)
      refine thnF (pg.run _ _ _ H5 x u _ I6' ru (step x H5 ⟨rfl, fun ys hy => by rw [I5.list_inj hy hq]; exact hx⟩)) fun _ s8 z8 => ?_
      obtain ⟨σ8, H8, I8, hw8, q8⟩ := z8
      refine wpAny_tests_nil ?_
      rw [if_pos rfl]
      have q8' : te σ8 H8 fun y H4 => ∃ acc, H4 D = some (.lst acc) ∧ acc.length < sizeLine ∧ Nx (upd H4 D (.lst (acc ++ [y]))) := by
        have z : (if true = true then te σ8 H8 (fun y H4 => ∃ acc, H4 D = some (.lst acc) ∧ acc.length < sizeLine ∧ Nx (upd H4 D (.lst (acc ++ [y])))) else Nx H8) := q8
        rw [if_pos rfl] at z
        exact z
      refine thnF (pe.run _ s8 σ8 H8 _ I8 q8') fun y0 s10 z10 => ?_
      obtain ⟨yv, H10, I10, r10, acc, hD10, hz10, nx⟩ := z10
      refine app_ok (X := X.blk sB HB scope ce [t]) I10 hD10 hz10 r10 fun s11 I11 => ?_
      obtain ⟨m', hm, w'⟩ := hNx _ nx
      have keepT := I11.pin (t, oi) (List.mem_append_right _ (List.mem_append_right _ (mem_pinsAt (List.mem_singleton_self t) e1)))
      have hlen : (wipe σ (own.map (·.2))).length = σ8.length := by rw [← hw8, wipe_length]
      refine ⟨m', hm, i + 1, _, (I11.unpinned (pins := [])).weak hlen (fun j v e => ?_), it6.at fun o e => ?_, keepT.2.1, w'⟩
      · rw [← hw8] at e
        exact (wipe_some e).1
      · rw [e1] at e
        cases e
        exact keepT.1
  exact codeAny_compStart_list loop (wpAny_pyIter_listiter itC loop)
end
end Sk


/-! A def that is called where an error is handled, and is told which. -/
namespace Sk
open PySem PySem.Spec PyProof.Rows L2 L2H HotX
/-- sp p: the promise where p is the handled error and its object -/
structure FnE (P : Program) (w : World) (K : PySem.W.Frag) (mg : Str → Option Value) (base : Heap) (CX : CXT) (k : Nat) (f : Addr) (fd : FuncData) (ps : List Str) (sp : Addr × Obj → Sp) : Prop where
  len : ∀ p vs H Q E, sp p vs H Q E → vs.length = ps.length
  run : ∀ (A : Around) (outer : List Env) (s : Shared) (H : Hp) (args : Args) (us : List Value) (vs : List V) (Q : VK) (E : XK) (p : Addr × Obj), RoomH k A → Hot1 A p → PinOk outer H s p → Env0 P w K mg base A outer s H →
    BindsTo s fd args (ps.zip us) → Vals vs us → sp p vs H Q E → codeAny (model P w) A (.call (.ref f) args) (CR CX outer P w H s Q E) s
theorem fn_hot {CX : CXT} {P : Program} {w : World} {K : PySem.W.Frag} {mg : Str → Option Value} {base : Heap} {k : Nat} {f : Addr} {x q : Str} {st : Stmt} {fd : FuncData} {N ps : List Str} {sp : Addr × Obj → Sp} (F : FnP K x q st f fd) (S : FnScope N ps (defScope st))
    (len : ∀ p vs H Q E, sp p vs H Q E → vs.length = ps.length)
    (body : ∀ (cdv : Value) (A : Around) (outer : List Env) (s : Shared) (H : Hp) (vs : List V) (Q : VK) (E : XK) (p : Addr × Obj), Hot1 A p → RoomH k (A.deeper (envOfC q (defScope st) s.heap.objs.size f cdv)) → sp p vs H Q E →
      ∃ t, PSs (cxH CX P w K mg base N q (defScope st) f cdv A outer s H E p) (defBody st) t ∧ t { nx := fun _ H' => Q .non H', rt := Q } (L2.start N vs) H) : FnE P w K mg base CX (k + 1) f fd ps sp := by
  obtain ⟨oc, od, dV, kV, doc, pm, an, cdv, ct, osl, rfl, lk, hcd, _, _⟩ := F.ex
  refine ⟨len, fun A outer s H args us vs Q E p room hot pin e0 hb r hsp => ?_⟩
  have hl := len _ _ _ _ _ hsp
  have old : ∀ b o, base.get? b = some o → s.heap.get? b = some o := fun b o e => (e0.bs b o e).1
  have KX : K.In s.heap := e0.mod.kin.keeps old
  have kinds : ∀ y ∈ ps.zip us, (defScope st).names.lookup y.1 = some .local ∨ ((defScope st).names.lookup y.1 = some .cell ∧ ((cellsFrom (s.heap.objs.size + 1) (defScope st).names []).lookup y.1).isSome = true) := fun y hy =>
    (S.par y.1 (List.of_mem_zip (a := y.1) (b := y.2) hy).1).imp id fun c => ⟨c, PySem.W.cellsFrom_some _ _ _ (.inl c)⟩
  refine codeAny_call_function room.depth (KX _ _ lk) rfl S.co S.gen rfl (PySem.W.codeRec_of KX hcd) (hb _ _ _ _ ?_)
  refine wpAny_newFunctionEnv_cells S.kind kinds fun env he s1 z => ?_
  subst he
  refine ⟨(e0.mod.nolimit.keeps old).keeps z.toInCall.keep, codeAny_func ?_⟩
  obtain ⟨t, ht, hq⟩ := body cdv A outer s H vs Q E p hot (room.deeper _) hsp
  refine wpAny_mono (ht.run [] s1 (L2.start N vs) H _ (inv_startH S pin e0 hl r z) hq) (fun fl s' hs => ?_) fun e s' hs => hs
  cases fl with
  | next =>
    obtain ⟨σ', H', J, q⟩ := hs
    exact ⟨.non, H', J.os, J.bare, J.base, J.hok, rfl, q⟩
  | ret u =>
    obtain ⟨v, σ', H', J, rv, q⟩ := hs
    exact ⟨v, H', J.os, J.bare, J.base, J.hok, rv, q⟩
  | brk =>
    obtain ⟨_, _, _, q⟩ := hs
    exact q.elim
  | cont =>
    obtain ⟨_, _, _, q⟩ := hs
    exact q.elim
section
variable {X : Cx} {CX : CXT} {k : Nat} {f : Addr} {fd : FuncData} {ps : List Str} {sp : Addr × Obj → Sp} {x : Str} {q pos : Pos} {e : Expr} {es : List Expr} {t : TA} {p : Addr × Obj}
/-- its call: p the handled error -/
theorem pe_callE (F : FnE X.prog X.w X.K X.mg X.base CX k f fd ps sp) (hr : RoomH k X.A) (hp : Hot1 X.A p) (hm : p ∈ X.pn) (hg : Gl X x) (gx : X.mg x = some (.ref f)) (hk : PySem.W.keepIn X.K (.ref f) = true) (hb : Binds X.K fd ps []) (hx : Passes CX X E0)
    {sq : Sp} (imp : ∀ vs H Q, sq vs H Q E0 → sp p vs H Q E0) (ha : PA X (e :: es) t) (hdb : (x == ("__debug__" : Str)) = false := by decide) (hst : starEach (e :: es) X.env = (false, eval e X.env) :: starEach es X.env := by rfl) (hno : (backTo pos (starEach es X.env)).any (·.1) = false := by rfl) :
    PE X (.Call (.Name x q) (e :: es) [] pos) (fun σ H Q => t σ H fun vs H1 => sq vs H1 Q E0) := by
  refine ⟨fun pins s σ H Q I h => wpAny_Call_Name_kw (ld_glob I hg gx ?_ hdb)⟩
  refine PySem.W.callWith_K (h₀ := X.base) I.ok.mod.kin hk (thn (ha.run pos pins s σ H _ I h) fun us s1 z => ?_) hst hno
  obtain ⟨vs, H1, I1, r, hs0⟩ := z
  have hs := imp _ _ _ hs0
  refine ⟨I1.kIn, ?_⟩
  have hl : us.length = ps.length := by
    rw [← r.length]
    exact F.len _ _ _ _ _ hs
  have bind := hb s1 us I1.kIn (by rw [List.append_nil]; exact hl)
  rw [List.append_nil] at bind
  obtain ⟨g1, g2, g3, g4, g5⟩ := I1.pin p (List.mem_append_left _ hm)
  refine wpAny_call (codeAny_mono (F.run X.A X.stack s1 H1 ⟨us, []⟩ us vs Q E0 p hr hp ⟨g1, g2, fun z => (List.mem_cons.mp (I1.stkSub p.1 z)).elim g3 g4, g5⟩ I1.env0 bind r hs) fun r' s' hq => ?_)
  cases r' with
  | error er => exact hx pins _ _ _ er s' I1 hq
  | ok fl =>
    cases fl with
    | ret u => exact I1.after hq
    | next => exact hq.elim
    | brk => exact hq.elim
    | cont => exact hq.elim
/-- isinstance of the handled error, of an own class, with or without a dict -/
def rIsH (K : PySem.W.Frag) (D a : Addr) : List V → Hp → VK → Prop := fun xs H Q => ∃ (c : V) (cv : Value) (b : Bool), xs = [.ref a, c] ∧ ClsV c cv ∧ PySem.W.kitOne K (.ref D) cv = some b ∧ Q (.bl b) H
end
end Sk


/-! isinstance of the handled error, in a def that was called there; its fields. -/
namespace Sk
open PySem PySem.Spec PySem.Calls PyProof.Rows L2 L2H HotX
section
open PySem.W
variable {prog : Program} {w : World} {A : Around} {E : Value → Shared → Prop} {s : Shared} {K : Frag} {x D : Addr} {ox : Obj} {od : Option Obj}
theorem find_cls (T : ExcC K D) : findObj K D od "__class__" = some (.bind (.builtin "getset_descriptor.__get__") (.builtin "object.__class__")) := by
  obtain ⟨cd, hc, _⟩ := any_some T.hd
  unfold findObj
  rw [hc, Option.bind_some, T.ha, Option.bind_some]
  simp only [T.hn, T.ht, Option.bind_some]
/-- e.__class__ -/
theorem cls_of_exc {Q : Option Value → Shared → Prop} (T : ExcC K D) (X : K.In s.heap) (I : InstAt s.heap x ox D od) (h : Q (some (.ref D)) { s with toks := s.toks + 1 }) : wpAny (model prog w) A (getAttr? (.ref x) "__class__") Q E s := by
  obtain ⟨hp, g, d, t, os⟩ := s
  have k0 := I.type (M := model prog w)
  have k1 := looks_findIn (M := model prog w) X T.hg
  have k2 := looks_findIn (M := model prog w) X T.hk
  have k3 := looks_find (M := model prog w) X I (find_cls (od := od) T)
  have sub : Looks (model prog w) hp (isInstance (.ref x) (.type "BaseException")) true := k0.andThen (looks_subIn X T.hs)
  have own : (Value.builtin "BaseException.__getattribute__" == Value.builtin "object.__getattribute__") = false := by decide +kernel
  unfold getAttr? getAttrBy? getAttrBy
  refine wpAny_bind (wpAny_mkText (wpAny_bind (wpAny_attempt (wpAny_holding (wpAny_bind (k0.at (wpAny_bind (k1.at ?_))))))))
  show wpAny _ _ (if (onTheHeap (Value.ref D) && Value.builtin "BaseException.__getattribute__" == Value.builtin "object.__getattribute__") = true then _ else _) _ _ _
  rw [own, Bool.and_false, if_neg Bool.false_ne_true]
  unfold getAttrByItsOwn hookBefore
  refine wpAny_bind ?_
  rw [if_pos (show onTheHeap (Value.ref D) = true from rfl)]
  refine k2.at (wpAny_bind (wpAny_attempt (wpAny_holding ?_)))
  unfold callGetattribute
  rw [if_neg (show ¬ ((false && onTheHeap (Value.builtin "BaseException.__getattribute__")) = true) from Bool.false_ne_true)]
  unfold boundAndCalled
  rw [PySem.F.excAttr_ValueError.ga.bind (.ref x)]
  refine wpAny_bind (wpAny_pure ?_)
  show wpAny _ _ (call (.builtin "BaseException.__getattribute__") [.ref x, .str "__class__" t]) _ _ _
  refine wpAny_call (codeAny_call_builtin PySem.F.excAttr_ValueError.ga.plain PySem.F.entry_bexc_ga ?_)
  refine @check_slot (model prog w) _ _ ⟨hp, g, d, t + 1, os⟩ "BaseException.__getattribute__" "BaseException" "__getattribute__" (.ref x) [.str "__class__" t] [] _ (by decide +kernel) (by decide +kernel) sub (PySem.F.args_bexc_ga (.ref x) (.str "__class__" t)) ?_
  unfold Builtin.«object.__getattribute__»
  refine wpAny_bind (wpAny_of_eq (a := ((Value.ref x : Value), [Value.str "__class__" t])) (by first | rfl | (simp only [slotArgs]; rfl)) (wpAny_bind (wpAny_pure (wpAny_bind (k0.at (wpAny_bind (k3.at ?_)))))))
  show wpAny _ _ (holding [Value.builtin "object.__class__"] (call (.builtin "getset_descriptor.__get__") [.builtin "object.__class__", .ref x, .ref D]) >>= ret) _ _ _
  refine wpAny_bind (wpAny_holding (wpAny_call (class_get (s := ⟨hp, g, d, t + 1, os⟩) (ox := ox) (od := od) X I T.hm (wpAny_pure ?_))))
  show wpAny _ _ (handedOut (.ref D)) _ _ _
  rw [handedOut_of (v := .ref D) rfl]
  first
    | exact wpAny_pure (wpAny_pure h)
    | exact wpAny_pure h
    | exact wpAny_pure (wpAny_bind (wpAny_pure (wpAny_pure h)))
theorem kit_exc (T : ExcC K D) : KitX K (.ref x) (.ref D) (fun h => InstAt h x ox D od) where
  ty := fun _ _ _ I => I.type
  it := fun _ _ X _ => by
    obtain ⟨cd, hc, _⟩ := any_some T.hd
    unfold clsIn at hc
    split at hc
    · rename_i ho
      intro A' Q' E' s' k q
      unfold isType loadHead
      exact wpAny_bind (wpAny_loadPart (k _ _ (X _ _ ho)) (wpAny_pure q))
    · cases hc
  ne := fun h tp dd its n sl X htp => by
    obtain ⟨cd, hc, _⟩ := any_some T.hd
    cases e : (Value.ref D == Value.ref tp) with
    | false => rfl
    | true =>
      obtain rfl : D = tp := Value.ref.inj (beq_iff_eq.mp e)
      unfold clsIn at hc
      split at hc
      · rename_i ho
        have z := (X _ _ ho).symm.trans htp
        cases z
      · cases hc
  ca := fun X I k => cls_of_exc T X I k
end
section
variable {X : Cx} {p : Addr × Obj} {D : Addr}
/-- p, an error of the class at D with a dict of its own, is the one handled -/
structure IsErr (p : Addr × Obj) (D d : Addr) : Prop where
  cls : p.2.cls = .ref D
  dict : p.2.dict = some d
  fld : ∃ vs, p.2.data = .fields vs
theorem call_isH {d : Addr} (hm : p ∈ X.pn) (i : IsErr p D d) (T : ExcC X.K D) : CallR X (.builtin "isinstance") (fun xs H Q => (∃ fs, H d = some (.xd fs)) ∧ rIsH X.K D p.1 xs H Q) := by
  intro pins s σ H xs us Q I r h
  obtain ⟨⟨fs, hd⟩, c, cv, b, rfl, k, e, q⟩ := h
  obtain ⟨u1, u2, rfl, r1, r2⟩ := vals2 r
  have e2 := k.eq r2
  subst e2
  cases (show u1 = Value.ref p.1 from r1)
  obtain ⟨get, _⟩ := I.pin p (List.mem_append_left _ hm)
  obtain ⟨vs, hv⟩ := i.fld
  obtain ⟨mA, ⟨o, es, ep, ho, _⟩, _⟩ := (show ObjOk X.prog X.w H s.heap d (.xd fs) from I.hok d _ hd)
  have J : PySem.W.InstAt s.heap p.1 p.2 D (some o) := ⟨get, i.cls, by unfold PySem.W.notCls; rw [hv] <;> rfl, by rw [i.dict]; exact ho⟩
  exact PySem.W.kia_one (kit_exc T) I.kIn J e (fun z => nomatch z) fun tk => ⟨.bl b, H, I.tok tk, rfl, q⟩
/-- n.f, n the handled error, in its own suite -/
theorem pe_xfH {e : Expr} {te : TE} {pos : Pos} {n : Str} {d : Addr} (hm : p ∈ X.pn) (i : IsErr p D d) (T : XfC X.K D) (hno : PySem.W.findIn X.K (.ref D) n = some none) (he : PE X e te) (hb : attributeBase e n X.env (eval e X.env) = eval e X.env := by rfl) :
    PE X (.Attribute e n pos) (fun σ H Q => te σ H fun x H1 => x = .ref p.1 ∧ ∃ (fs : List (Str × V)) (v : V), H1 d = some (.xd fs) ∧ fs.lookup n = some v ∧ Q v H1) := by
  refine ⟨fun pins s σ H Q I h => attr_of hb (thn (he.run pins s σ H _ I h) fun u s1 z => ?_)⟩
  obtain ⟨x, H1, I1, rx, ex, fs, v, ea, l, q⟩ := z
  subst ex
  cases (show u = Value.ref p.1 from rx)
  obtain ⟨get, _⟩ := I1.pin p (List.mem_append_left _ hm)
  obtain ⟨vs, hv⟩ := i.fld
  obtain ⟨mA, hns, hr⟩ := (show ObjOk X.prog X.w H1 s1.heap d (.xd fs) from I1.hok d _ ea)
  obtain ⟨o, ho, hl⟩ := lookIn_ns hns
  obtain ⟨y, hy, ry⟩ := RelO.some_of (v := v) (o := mA n) (by rw [← l]; exact hr n)
  have J : PySem.W.InstAt s1.heap p.1 p.2 D (some o) := ⟨get, i.cls, by unfold PySem.W.notCls; rw [hv] <;> rfl, by rw [i.dict]; exact ho⟩
  exact HandSPX.exc_get I1.kIn J T.ga T.gg T.exC (PySem.W.findObj_own T.hdC hno rfl (by rw [hl, hy])) (handed_of ry) ⟨v, H1, I1.tok _, ry, q⟩
end
end Sk


/-! Deeds, values, a pile: what is asked of them, in plain words. -/
namespace Sk
open PySem PySem.Spec PyProof.Rows L2
abbrev sPush : Str := "push"
abbrev sPop : Str := "pop"
/-- a deed as it is handed in: none, or a text and numbers -/
abbrev Row := Option (Str × List Int)
def rowV : Row → List V
  | none => []
  | some (s, is) => .str s :: is.map V.int
def rowD : Row → List PyData
  | none => []
  | some (s, is) => .str s :: is.map PyData.int
def valB (n : Int) : Bool := decide (0 ≤ n) && decide (n ≤ 99)
def okRow : Row → Bool
  | some (s, []) => decide (s = sPop)
  | some (s, [v]) => decide (s = sPush) && valB v
  | _ => false
def isPop : Row → Bool
  | some (s, []) => s == sPop
  | _ => false
def Lay (r : Row) : Prop := SeqAt.shaped (.tuple (rowD r)) = true
inductive Deed where
  | push (v : Int)
  | pop
def Deed.row : Deed → Row
  | .push v => some (sPush, [v])
  | .pop => some (sPop, [])
def Deed.fit : Deed → Prop
  | .push v => 0 ≤ v ∧ v < 100
  | .pop => True
theorem dpAll_ints {K : PySem.W.Frag} {H : Hp} : ∀ is : List Int, DpAll K H (is.map V.int) (is.map PyData.int)
  | [] => .nil
  | i :: is => .cons (.int i) (dpAll_ints is)
theorem row_dp {K : PySem.W.Frag} {H : Hp} {t : Addr} {r : Row} (h : SqT K H t (rowV r)) : Dp K H (.ref t) (.tuple (rowD r)) := by
  refine .tup h ?_
  cases r with
  | none => exact .nil
  | some p => exact .cons (.str _) (dpAll_ints _)
theorem eqv_pop (r : Row) : PyData.eqv (.tuple (rowD r)) (.tuple [.str sPop]) = isPop r := by
  cases r with
  | none => simp [rowD, PyData.eqv, PyData.eqvAll, isPop]
  | some p =>
    obtain ⟨s, is⟩ := p
    cases is with
    | nil => simp [rowD, PyData.eqv, PyData.eqvAll, isPop]
    | cons a l => simp [rowD, PyData.eqv, PyData.eqvAll, isPop]
theorem push_ne_pop : ¬ (sPush = sPop) := by decide +kernel
theorem isPop_ok {r : Row} (h : isPop r = true) : okRow r = true := by
  cases r with
  | none => cases h
  | some p =>
    obtain ⟨s, is⟩ := p
    cases is with
    | nil =>
      have e : s = sPop := by simpa [isPop] using h
      simp [okRow, e]
    | cons a l => cases h
theorem ok_deed {r : Row} (h : okRow r = true) : ∃ d : Deed, r = d.row ∧ d.fit := by
  cases r with
  | none => cases h
  | some p =>
    obtain ⟨s, is⟩ := p
    cases is with
    | nil =>
      have e : s = sPop := by simpa [okRow] using h
      exact ⟨.pop, by rw [e]; rfl, trivial⟩
    | cons v l =>
      cases l with
      | nil =>
        simp [okRow, valB] at h
        obtain ⟨e, h1, h2⟩ := h
        exact ⟨.push v, by rw [e]; rfl, h1, by omega⟩
      | cons a b => cases h
theorem deed_ok {d : Deed} (h : d.fit) : okRow d.row = true := by
  cases d with
  | push v =>
    obtain ⟨h1, h2⟩ : 0 ≤ v ∧ v < 100 := h
    simp [okRow, Deed.row, valB, h1]
    omega
  | pop => simp [okRow, Deed.row]
theorem deed_lay (d : Deed) : Lay d.row := by
  cases d with
  | push v =>
    show SeqAt.shaped (.tuple [.str sPush, .int v]) = true
    have h1 : PyData.canLay0 (.str sPush) = true := by decide +kernel
    simp [SeqAt.shaped, PyData.canLay0, PyData.canLayAll0, PyData.depth, PyData.depthAll] at h1 ⊢
    exact h1
  | pop => show SeqAt.shaped (.tuple [.str sPop]) = true; decide +kernel
/-! ### one behind another -/
/-- an answer -/
def doneV : V := .str "done"
/-- what a deed answers, and the pile behind it, the lowest first -/
def act (pile : List Int) : Deed → V × List Int
  | .push v => (doneV, pile ++ [v])
  | .pop => match pile.getLast? with
    | none => (.non, pile)
    | some v => (.int v, pile.dropLast)
def acts (pile : List Int) (ds : List Deed) : List V × List Int := ds.foldl (fun s d => (s.1 ++ [(act s.2 d).1], (act s.2 d).2)) ([], pile)
/-- the same from answers that stand already -/
def actsFrom (as : List V) (pile : List Int) (ds : List Deed) : List V × List Int := ds.foldl (fun s d => (s.1 ++ [(act s.2 d).1], (act s.2 d).2)) (as, pile)
theorem acts_take {pile : List Int} {ds : List Deed} {i : Nat} {d : Deed} (h : ds[i]? = some d) :
    acts pile (ds.take (i + 1)) = ((acts pile (ds.take i)).1 ++ [(act (acts pile (ds.take i)).2 d).1], (act (acts pile (ds.take i)).2 d).2) := by
  unfold acts
  rw [show ds.take (i + 1) = ds.take i ++ [d] by
    rw [List.take_add_one, h]
    rfl, List.foldl_append]
  rfl
theorem acts_lenA (pile : List Int) : ∀ ds : List Deed, ∀ as : List V, (actsFrom as pile ds).1.length = as.length + ds.length := by
  intro ds
  induction ds generalizing pile with
  | nil => intro as; simp [actsFrom]
  | cons d ds ih =>
    intro as
    have := ih (act pile d).2 (as ++ [(act pile d).1])
    simp [actsFrom] at this ⊢
    omega
theorem act_len (pile : List Int) (d : Deed) : (act pile d).2.length ≤ pile.length + 1 := by
  cases d with
  | push v => simp [act]
  | pop =>
    unfold act
    cases h : pile.getLast? with
    | none => simp
    | some v => simp; omega
theorem acts_lenP : ∀ (ds : List Deed) (as : List V) (pile : List Int), (actsFrom as pile ds).2.length ≤ pile.length + ds.length
  | [], as, pile => by simp [actsFrom]
  | d :: ds, as, pile => by
    have h := acts_lenP ds (as ++ [(act pile d).1]) (act pile d).2
    have h2 := act_len pile d
    have e : actsFrom as pile (d :: ds) = actsFrom (as ++ [(act pile d).1]) (act pile d).2 ds := rfl
    rw [e, List.length_cons]
    omega
theorem acts_len1 (pile : List Int) (ds : List Deed) : (acts pile ds).1.length = ds.length := by
  have h := acts_lenA pile ds []
  rw [show acts pile ds = actsFrom [] pile ds from rfl, h]
  simp
theorem acts_len2 (pile : List Int) (ds : List Deed) : (acts pile ds).2.length ≤ pile.length + ds.length := acts_lenP ds [] pile
/-- an answer read as data -/
def ansD : V → PyData
  | .int i => .int i
  | .str x => .str x
  | _ => .none
def IsAns (v : V) : Prop := v = doneV ∨ v = .non ∨ ∃ i, v = .int i
theorem ans_dp {K : PySem.W.Frag} {H : Hp} {v : V} (h : IsAns v) : Dp K H v (ansD v) := by
  rcases h with h | h | ⟨i, h⟩ <;> (subst h; constructor)
theorem ans_fit {v : V} (h : IsAns v) (n : Nat) : Fits (n + 1) (ansD v) := by
  rcases h with h | h | ⟨i, h⟩ <;> (subst h; constructor)
theorem act_ans (pile : List Int) (d : Deed) : IsAns (act pile d).1 := by
  cases d with
  | push v => exact .inl rfl
  | pop =>
    unfold act
    cases h : pile.getLast? with
    | none => exact .inr (.inl rfl)
    | some v => exact .inr (.inr ⟨v, rfl⟩)
theorem acts_ansA : ∀ (ds : List Deed) (as : List V) (pile : List Int), (∀ v ∈ as, IsAns v) → ∀ v ∈ (actsFrom as pile ds).1, IsAns v
  | [], as, pile, h => h
  | d :: ds, as, pile, h => by
    have e : actsFrom as pile (d :: ds) = actsFrom (as ++ [(act pile d).1]) (act pile d).2 ds := rfl
    rw [e]
    refine acts_ansA ds _ _ fun v hv => ?_
    rcases List.mem_append.mp hv with q | q
    · exact h v q
    · rw [List.mem_singleton.mp q]
      exact act_ans _ _
theorem acts_ans (pile : List Int) (ds : List Deed) : ∀ v ∈ (acts pile ds).1, IsAns v := acts_ansA ds [] pile (fun v h => by cases h)
theorem anss_dp {K : PySem.W.Frag} {H : Hp} : ∀ {vs : List V}, (∀ v ∈ vs, IsAns v) → DpAll K H vs (vs.map ansD)
  | [], _ => .nil
  | v :: vs, h => .cons (ans_dp (h v List.mem_cons_self)) (anss_dp fun u hu => h u (List.mem_cons_of_mem _ hu))
/-! ### refusals -/
/-- the number of the first that is not so -/
def firstNot {α : Type} (p : α → Bool) : List α → Option Nat
  | [] => none
  | x :: xs => if p x then (firstNot p xs).map (· + 1) else some 0
theorem firstNot_some {α : Type} {p : α → Bool} : ∀ {l : List α} {i : Nat}, firstNot p l = some i → (∃ x, l[i]? = some x ∧ p x = false) ∧ ∀ j, j < i → ∃ x, l[j]? = some x ∧ p x = true
  | [], i, h => by cases h
  | x :: xs, i, h => by
    unfold firstNot at h
    by_cases hp : p x = true
    · rw [if_pos hp] at h
      cases e : firstNot p xs with
      | none => rw [e] at h; cases h
      | some k =>
        rw [e] at h
        have ei : k + 1 = i := Option.some.inj h
        subst ei
        obtain ⟨h1, h2⟩ := firstNot_some e
        refine ⟨by simpa using h1, fun j hj => ?_⟩
        cases j with
        | zero => exact ⟨x, rfl, hp⟩
        | succ j => simpa using h2 j (by omega)
    · rw [if_neg hp] at h
      have ei : 0 = i := Option.some.inj h
      subst ei
      exact ⟨⟨x, rfl, by simpa using hp⟩, fun j hj => absurd hj (Nat.not_lt_zero _)⟩
theorem firstNot_none {α : Type} {p : α → Bool} : ∀ {l : List α}, firstNot p l = none → ∀ x ∈ l, p x = true
  | [], _, x, hx => by cases hx
  | y :: ys, h, x, hx => by
    unfold firstNot at h
    by_cases hp : p y = true
    · rw [if_pos hp] at h
      have e : firstNot p ys = none := by
        cases e : firstNot p ys with
        | none => rfl
        | some k => rw [e] at h; cases h
      rcases List.mem_cons.mp hx with q | q
      · rw [q]; exact hp
      · exact firstNot_none e x q
    · rw [if_neg hp] at h
      cases h
theorem firstNot_of {α : Type} {p : α → Bool} : ∀ {l : List α} {i : Nat} {x : α}, l[i]? = some x → p x = false → (∀ j, j < i → ∀ y, l[j]? = some y → p y = true) → firstNot p l = some i
  | [], i, x, h, _, _ => by simp at h
  | y :: ys, 0, x, h, hp, _ => by
    have e : y = x := Option.some.inj h
    subst e
    unfold firstNot
    rw [if_neg (by rw [hp]; exact Bool.false_ne_true)]
  | y :: ys, i + 1, x, h, hp, k => by
    unfold firstNot
    have hy : p y = true := k 0 (Nat.succ_pos i) y rfl
    have e : firstNot p ys = some i := firstNot_of (x := x) (by simpa using h) hp fun j hj z hz => k (j + 1) (Nat.succ_lt_succ hj) z (by simpa using hz)
    rw [if_pos hy, e]
    rfl
theorem firstNot_all {α : Type} {p : α → Bool} : ∀ {l : List α}, (∀ x ∈ l, p x = true) → firstNot p l = none
  | [], _ => rfl
  | y :: ys, h => by
    unfold firstNot
    rw [if_pos (h y List.mem_cons_self), firstNot_all fun x hx => h x (List.mem_cons_of_mem _ hx)]
    rfl
/-- a list of deeds' tuples -/
def Rows (K : PySem.W.Frag) (H : Hp) (ts : List Addr) (rs : List Row) : Prop := Paired (fun t r => SqT K H t (rowV r)) ts rs
theorem Rows.len {K : PySem.W.Frag} {H : Hp} {ts : List Addr} {rs : List Row} (h : Rows K H ts rs) : ts.length = rs.length := Paired.length h
theorem Rows.at_ {K : PySem.W.Frag} {H : Hp} : ∀ {ts : List Addr} {rs : List Row} {i : Nat} {t : Addr}, Rows K H ts rs → ts[i]? = some t → ∃ r, rs[i]? = some r ∧ SqT K H t (rowV r)
  | _, _, i, t, .nil, e => by simp at e
  | _, _, 0, t, .cons h _, e => by
    have q := Option.some.inj e
    subst q
    exact ⟨_, rfl, h⟩
  | _, _, i + 1, t, .cons _ hs, e => by
    obtain ⟨r, q1, q2⟩ := Rows.at_ (i := i) (t := t) hs (by simpa using e)
    exact ⟨r, by simpa using q1, q2⟩
theorem Rows.mono {K : PySem.W.Frag} {H H' : Hp} (k : ∀ t xs, SqT K H t xs → SqT K H' t xs) : ∀ {ts : List Addr} {rs : List Row}, Rows K H ts rs → Rows K H' ts rs
  | _, _, .nil => .nil
  | _, _, .cons h hs => .cons (k _ _ h) (Rows.mono k hs)
theorem Rows.append {K : PySem.W.Frag} {H : Hp} : ∀ {ts us : List Addr} {rs qs : List Row}, Rows K H ts rs → Rows K H us qs → Rows K H (ts ++ us) (rs ++ qs)
  | _, _, _, _, .nil, h => h
  | _, _, _, _, .cons a b, h => .cons a (Rows.append b h)
theorem Rows.take {K : PySem.W.Frag} {H : Hp} (n : Nat) : ∀ {ts : List Addr} {rs : List Row}, Rows K H ts rs → Rows K H (ts.take n) (rs.take n) := by
  induction n with
  | zero => intro ts rs h; exact .nil
  | succ n ih =>
    intro ts rs h
    cases h with
    | nil => exact .nil
    | cons a b => exact .cons a (ih b)
theorem Rows.drop {K : PySem.W.Frag} {H : Hp} (n : Nat) : ∀ {ts : List Addr} {rs : List Row}, Rows K H ts rs → Rows K H (ts.drop n) (rs.drop n) := by
  induction n with
  | zero => intro ts rs h; exact h
  | succ n ih =>
    intro ts rs h
    cases h with
    | nil => exact .nil
    | cons a b => exact ih b
theorem Rows.dp {K : PySem.W.Frag} {H : Hp} : ∀ {ts : List Addr} {rs : List Row}, Rows K H ts rs → DpAll K H (ts.map V.ref) (rs.map fun r => PyData.tuple (rowD r))
  | _, _, .nil => .nil
  | _, _, .cons a b => .cons (row_dp a) (Rows.dp b)
end Sk


namespace Sk
open PySem PySem.Spec PyProof.Rows L2
/-- a tuple stands where a list is stored to -/
theorem sqt_upd {K : PySem.W.Frag} {H : Hp} {D t : Addr} {xs : List V} {l : List V} {o : HO} (e : H D = some (.lst l)) (h : SqT K H t xs) : SqT K (upd H D o) t xs := by
  rcases h with (h | ⟨u, h⟩) | h
  · exact .inl (.inl (by rw [upd_ne (ne_of h e (by intro z; cases z))]; exact h))
  · exact .inl (.inr ⟨u, by rw [upd_ne (ne_of h e (by intro z; cases z))]; exact h⟩)
  · exact .inr h
theorem sqt_but {K : PySem.W.Frag} {H H' : Hp} {p t : Addr} {xs l : List V} (b : But p H H') (e : H p = some (.lst l)) (h : SqT K H t xs) : SqT K H' t xs := by
  rcases h with (h | ⟨u, h⟩) | h
  · exact .inl (.inl (b _ _ (ne_of h e (by intro z; cases z)) h))
  · exact .inl (.inr ⟨u, b _ _ (ne_of h e (by intro z; cases z)) h⟩)
  · exact .inr h
theorem lay_ints : ∀ ns : List Int, PyData.canLayAll0 (ns.map PyData.int) = true ∧ PyData.depthAll (ns.map PyData.int) ≤ 1
  | [] => ⟨rfl, by simp [PyData.depthAll]⟩
  | n :: ns => by
    obtain ⟨h1, h2⟩ := lay_ints ns
    refine ⟨by simp [PyData.canLayAll0, PyData.canLay0, h1], ?_⟩
    simp [PyData.depthAll, PyData.depth] at h2 ⊢
    omega
theorem shaped_ints (ns : List Int) : SeqAt.shaped (.list (ns.map PyData.int)) = true := by
  obtain ⟨h1, h2⟩ := lay_ints ns
  simp [SeqAt.shaped, PyData.canLay0, PyData.depth, h1]
  omega
theorem eqv_nil (ns : List Int) : PyData.eqv (.list (ns.map PyData.int)) (.list []) = ns.isEmpty := by
  cases ns <;> simp [PyData.eqv, PyData.eqvAll]
end Sk
/-! xs[::k], k one or minus one, told by an expression. -/
namespace Sk
open PySem PySem.Spec PyProof.Rows L2
/-- the list itself, or backwards -/
def wayV (xs : List V) (k : Int) : List V := if k = 1 then xs else xs.reverse
def tWay (K : PySem.W.Frag) (te tk : TE) : TE := fun σ H Q => te σ H fun x H1 => tPart tk σ H1 fun o H2 => ∃ (a : Addr) (xs : List V) (k : Int), x = .ref a ∧ o = some k ∧ (k = 1 ∨ k = -1) ∧ SqL K H2 a xs ∧ ∀ l, H2 l = none → Q (.ref l) (upd H2 l (.lst (wayV xs k)))
theorem pick_one (its : List Value) : slicePick its.toArray none none (some 1) = its.toArray := by
  have e : slicePick its.toArray none none (some 1) = slicePick its.toArray none none none := rfl
  rw [e, slicePick_cut, HT.sIx_none, HT.sIx_none]
  simp
theorem pick_way (its : List Value) {k : Int} (h : k = 1 ∨ k = -1) : slicePick its.toArray none none (some k) = (if k = 1 then its else its.reverse).toArray := by
  rcases h with rfl | rfl
  · rw [pick_one, if_pos rfl]
  · rw [PySem.W.krv_pick, if_neg (by decide)]
theorem vals_way {xs : List V} {its : List Value} (r : Vals xs its) (k : Int) : Vals (wayV xs k) (if k = 1 then its else its.reverse) := by
  unfold wayV
  by_cases h : k = 1
  · rw [if_pos h, if_pos h]
    exact r
  · rw [if_neg h, if_neg h]
    exact r.reverse
theorem pe_way {X : Cx} {e ek : Expr} {te tk : TE} {p2 p3 : Pos} (he : PE X e te) (hk : PE X ek tk) : PE X (.Subscript e (.Slice none none (some ek) p2) p3) (tWay X.K te tk) := by
  refine ⟨fun pins sa σ Ha Q Ia hh => ?_⟩
  refine Subscript_ (thn (he.run pins sa σ Ha _ Ia hh) fun v sb ⟨x, Hb, Ib, rx, qx⟩ => ?_)
  refine wpAny_Slice (thn (po_none.run pins sb σ Hb (fun o Hc => o = none ∧ Hc = Hb) Ib ⟨rfl, rfl⟩) fun vl sc ⟨l, Hc, Ic, pl, el, ec⟩ => ?_)
  subst el ec
  refine thn (po_none.run pins sc σ Hc (fun o Hd => o = none ∧ Hd = Hc) Ic ⟨rfl, rfl⟩) fun vu sd ⟨u, Hd, Id, pu, eu, ed⟩ => ?_
  subst eu ed
  refine thn ((po_some hk).run pins sd σ Hd _ Id qx) fun vk sf ⟨o, Hf, If, pk, a, xs, k, ex, eo, k1, hx, q⟩ => ?_
  subst ex eo
  cases rx
  have Ih : Inv X pins σ Hf { sf with heap := sf.heap.push { cls := .type "slice", data := .fields #[vl, vu, vk] } } := If.kept (t' := sf.toks) fun b ob z => Heap.get?_push_of_some _ z
  obtain ⟨its, rr, ht, hz⟩ := Ih.list hx
  have hlen := rr.length
  show wpAny (model X.prog X.w) X.A (subscriptTail e (.Slice none none (some ek) p2) (.ref a) (.ref sf.heap.objs.size)) (EP X pins σ Q) X.xe { sf with heap := sf.heap.push { cls := .type "slice", data := .fields #[vl, vu, vk] } }
  refine tail_any (ops := [.ref a, .ref sf.heap.objs.size]) ht.isList.typeIs (PySem.slot_list_getitem.lookup) ?_ (by with_unfolding_all rfl)
  refine wpAny_getItem_list_slice ht.isList (Heap.IsSliceOf.new _ vl vu vk) pl pu pk (by rcases k1 with rfl | rfl <;> decide) ?_ (by rw [List.size_toArray]; omega)
  rw [pick_way its k1]
  refine ⟨.ref _, _, Ih.laid (t' := sf.toks) (o := .lst (wayV xs k)) (fun b ob z => Heap.get?_push_of_some _ z) (Nat.le_refl _) ?_, rfl, q _ (Ih.hok.fresh (Nat.le_refl _))⟩
  refine ⟨?_, _, 0, vals_way rr k, Heap.get?_push_size _ rfl⟩
  unfold wayV
  split
  · exact hz
  · rw [List.length_reverse]
    exact hz
end Sk


namespace Sk
open PySem PySem.Spec PyProof.Rows L2
/-- built-in names that the module does not bind -/
structure TxB (mg : Str → Option Value) : Prop where
  len : mg "len" = none
  int : mg "int" = none
  isinstance : mg "isinstance" = none
  bool : mg "bool" = none
  str : mg "str" = none
  dict : mg "dict" = none
  tuple : mg "tuple" = none
  list : mg "list" = none
  range : mg "range" = none
  enumerate : mg "enumerate" = none
  ValueError : mg "ValueError" = none
  sum : mg "sum" = none
  sorted : mg "sorted" = none
  min : mg "min" = none
  max : mg "max" = none
abbrev vN (ns : List Nat) : List V := ns.map fun n : Nat => V.int n
end Sk


/-! enumerate over a tuple; a tuple times one; statements that are never reached. -/
namespace Sk
open PySem PySem.Spec PyProof.Rows L2
/-- an int of the module -/
def IntG (mg : Str → Option Value) (x : Str) (n : Int) : Prop := ∃ t, mg x = some (.int n t)
section
variable {X : Cx}
theorem pe_num {x : Str} {n : Int} {pos : Pos} (hg : Gl X x) (h : IntG X.mg x n) (hd : (x == ("__debug__" : Str)) = false := by decide) : PE X (.Name x pos) (tC (.int n)) := by
  obtain ⟨t, e⟩ := h
  exact pe_glob (v := .int n) hg e ⟨t, rfl⟩ hd
/-- a statement that is never reached -/
theorem ps_no {st : Stmt} : PS X st (fun _ _ _ => False) := ⟨fun _ _ _ _ _ _ z => z.elim⟩
/-- an item of a list or a tuple -/
def rIxA (K : PySem.W.Frag) : R2 := fun x y H Q => ∃ (p : Addr) (xs : List V) (i : Int) (v : V), x = .ref p ∧ y = .int i ∧ (SqL K H p xs ∨ SqT K H p xs) ∧ atI xs i = some v ∧ Q v H
theorem ix_any : IxR X (rIxA X.K) := by
  intro ea eb pins s σ H x y v u Q I rx ry h es
  obtain ⟨p, xs, i, z, e1, e2, hs | hs, e3, q⟩ := h
  · exact ix_list ea eb pins s σ H x y v u Q I rx ry ⟨p, xs, i, z, e1, e2, hs, e3, q⟩ es
  · exact ix_tup ea eb pins s σ H x y v u Q I rx ry ⟨p, xs, i, z, e1, e2, hs, e3, q⟩ es
end
/-! ### enumerate over a tuple -/
theorem enumT_new (a : Addr) (us : Array Value) (m : Nat) (od : Option Addr) (ol : Array (Option Value)) :
    Meets (Builtin.«enumerate.__new__» ⟨[.type "enumerate", .ref a], []⟩) (fun _ R s => s.heap.get? a = some ⟨.type "tuple", od, .seq us m, ol⟩ ∧
      R (.ok (.ret (.ref (s.heap.push { cls := .type "tuple_iterator", data := .fields #[.ref a, .int 0 0] }).objs.size)))
        { s with heap := (s.heap.push { cls := .type "tuple_iterator", data := .fields #[.ref a, .int 0 0] }).push { cls := .type "enumerate", data := .fields #[.none, .bool false, .ref s.heap.objs.size, rawInt 0, .none, .none] } }) := by
  refine .of_wp fun P w A R st z => ?_
  obtain ⟨h0, g0, d0, t0, o0⟩ := st
  obtain ⟨e0, z⟩ := z
  have sub := sub_enumerate
  have isT : Heap.IsTuple (Shared.heap ⟨h0, g0, d0, t0, o0⟩) a us := ⟨_, e0, rfl, m, rfl⟩
  wp_walk using AutoSeq1.wpAny_loadPart' e0
  refine wpAny_stack_any fun z9 => wpAny_pure ?_
  split
  · rename_i cc _ _ _ _ _
    cases (cc == Value.type "enumerate")
    all_goals
      wp_walk using AutoSeq1.wpAny_loadPart' e0, wpAny_pyIter_tuple isT
      exact ⟨_, rfl, z⟩
  · wp_walk using AutoSeq1.wpAny_loadPart' e0, wpAny_pyIter_tuple isT
    exact ⟨_, rfl, z⟩
section
variable {P : Program} {w : World} {A : Around} {E : Value → Shared → Prop} {s : Shared}
theorem enumT_call {a : Addr} {us : Array Value} {Q : Value → Shared → Prop} (ha : s.heap.IsTuple a us)
    (k : ∀ h1, IsEnum h1 (s.heap.objs.size + 1) s.heap.objs.size 0 .none → h1.IsTupleIter s.heap.objs.size a 0 → h1.objs.size = s.heap.objs.size + 2 → (∀ b o, s.heap.get? b = some o → h1.get? b = some o) → Q (.ref (s.heap.objs.size + 1)) { s with heap := h1 }) :
    wpAny (model P w) A (call (.type "enumerate") [.ref a]) Q E s := by
  obtain ⟨⟨c, od, dt, ol⟩, e0, ec, m, ed⟩ := ha
  have ec : c = .type "tuple" := ec
  have ed : dt = .seq us m := ed
  subst ec ed
  refine callType_new F.called_enumerate (by decide) (F.typeCall_enumerate_1 _) (F.newCall_enumerate_1 _) (fun b => F.args_object_init_2 b _) F.entry_enumerate_new (enumT_new a us m od ol) ⟨e0, ?_⟩
  have n1 : (s.heap.push { cls := .type "tuple_iterator", data := .fields #[.ref a, .int 0 0] }).objs.size = s.heap.objs.size + 1 := Heap.size_push ..
  have it : IsEnum ((s.heap.push { cls := .type "tuple_iterator", data := .fields #[.ref a, .int 0 0] }).push { cls := .type "enumerate", data := .fields #[.none, .bool false, .ref s.heap.objs.size, rawInt 0, .none, .none] }) (s.heap.objs.size + 1) s.heap.objs.size 0 .none := by
    have z := Heap.get?_push_size (s.heap.push { cls := .type "tuple_iterator", data := .fields #[.ref a, .int 0 0] }) (o := { cls := .type "enumerate", data := .fields #[.none, .bool false, .ref s.heap.objs.size, rawInt 0, .none, .none] }) rfl
    rw [n1] at z
    exact z
  show _ ∧ _
  rw [n1]
  exact ⟨⟨_, it, rfl⟩, k _ it ⟨_, Heap.get?_push_of_some _ (Heap.get?_push_size _ rfl), rfl, rfl⟩ (by rw [Heap.size_push, n1]) fun b o q => Heap.get?_push_of_some _ (Heap.get?_push_of_some _ q)⟩
end
/-- the tuple at a as it stands at each turn, each item in a new pair -/
def IteT (K : PySem.W.Frag) (a : Addr) : It :=
  ⟨fun i H => ∃ (xs : List V) (x : V), SqT K H a xs ∧ xs[i]? = some x, fun i H v H' => ∃ T x, v = .ref T ∧ H T = none ∧ H' = upd H T (.tup [.int (i : Nat), x]) ∧ ∀ xs, SqT K H a xs → xs[i]? = some x, fun i H => ∃ xs : List V, SqT K H a xs ∧ xs.length = i⟩
theorem turn_enumT {P : Program} {w : World} {K : PySem.W.Frag} {es : List Expr} {kk : Nat} {tp : Pos} (a e it : Addr) :
    Turn P w K (.Tuple es kk tp) (IteT K a) [e, it] e (fun i h => (∃ old, IsEnum h e it ((i : Nat) : Int) old) ∧ h.IsTupleIter it a i ∧ e ≠ it ∧ a ≠ it) where
  mem := by simp
  obj := fun i h st b hb => by
    obtain ⟨⟨old, he⟩, ⟨o, ho, hc, hd⟩, _⟩ := st
    rcases (by simpa using hb : b = e ∨ b = it) with q | q
    · rw [q]; exact ⟨_, he, fun v z => nomatch z⟩
    · rw [q]; exact ⟨o, ho, fun v z => by rw [hd] at z; cases z⟩
  keep := fun i h h' st k => by
    obtain ⟨⟨old, he⟩, hi, ne⟩ := st
    exact ⟨⟨old, k e (by simp) _ he⟩, hi.at fun o z => k it (by simp) o z, ne⟩
  item := by
    intro X hP hw hK hc i pins s σ H E I hf st hg
    subst hP hw hK
    obtain ⟨⟨old, he⟩, hit, n1, n2⟩ := st
    obtain ⟨xs, x, hq, hx⟩ := hg
    obtain ⟨its, rv, isT, hz⟩ := I.tuple hq
    obtain ⟨u, hu, ru⟩ := rv.get hx
    have le : e < s.heap.objs.size := Heap.lt_size he
    have li : it < s.heap.objs.size := by obtain ⟨_, z, _⟩ := hit; exact Heap.lt_size z
    have ea : e ≠ a := fun q => by
      obtain ⟨o, ho, hcl, _⟩ := isT
      rw [← q, he] at ho
      have ho := Option.some.inj ho
      subst ho
      injection hcl with hcl
      exact absurd hcl (by decide)
    have hlt : i < its.toArray.size := by
      have := (List.getElem?_eq_some_iff.mp hu).1
      simpa using this
    refine wpAny_pyNext_enum_itemD (Draws.tuple (show X.A.in1.handled = none from I.ok.hd hc) it a n2 its.toArray) he ⟨hit, isT⟩ hlt n1 (by simp [n1, ea]) fun u2 h1 tk hP ho st1 hT hsz hk => ?_
    have eu : u2 = u := by
      have z : its.toArray[i]? = some u2 := hP
      rw [List.getElem?_toArray, hu] at z
      exact (Option.some.inj z).symm
    subst eu
    refine ⟨_, rfl, wpAny_letOwnedTupleGo_enum (s := { s with heap := h1, toks := tk + 1 }) ho fun h2 he2 sb => ?_⟩
    have hT2 : h2.get? s.heap.objs.size = some { cls := .type "tuple", data := .seq #[.int i tk, u2] } := (sb.2 _ (Nat.ne_of_gt le)).trans hT
    have new : ObjOk X.prog X.w (upd H s.heap.objs.size (.tup [.int (i : Nat), x])) h2 s.heap.objs.size (.tup [.int (i : Nat), x]) := ⟨by show 2 ≤ sizeLine; decide, [.int i tk, u2], .cons ⟨tk, rfl⟩ (.cons ru .nil), ⟨_, hT2, rfl, _, rfl⟩⟩
    have I1 : L2.Inv X pins σ (upd H s.heap.objs.size (.tup [.int (i : Nat), x])) { s with heap := h2, toks := tk + 1 } := by
      refine I.turnedNew (ch := [e, it]) (fun b ob hb q => ?_) hf (Nat.le_refl _) new
      have b1 : b ≠ e := fun z => hb (by simp [z])
      have b2 : b ≠ it := fun z => hb (by simp [z])
      exact (sb.2 b b1).trans (hk b ob b1 b2 q)
    refine ⟨.ref s.heap.objs.size, _, I1, rfl, ⟨_, x, rfl, I.hok.fresh (Nat.le_refl _), rfl, fun ys hy => by rw [I.tuple_inj hy hq]; exact hx⟩, ⟨⟨u2, ?_⟩, st1.1.at fun o q => (sb.2 it (Ne.symm n1)).trans q, n1, n2⟩, fun b hb => ?_⟩
    · have e1 : ((i + 1 : Nat) : Int) = (i : Int) + 1 := Int.natCast_add i 1
      rw [e1]
      simpa using he2
    · have lb : b < s.heap.objs.size := by
        rcases (by simpa using hb : b = e ∨ b = it) with q | q
        · rw [q]; exact le
        · rw [q]; exact li
      rw [upd_ne (Nat.ne_of_lt lb)]
      exact (hf b hb).1
  done := by
    intro X hP hw hK hc i pins s σ H E I hf st hg
    subst hP hw hK
    obtain ⟨⟨old, he⟩, hit, n1, n2⟩ := st
    obtain ⟨xs, hq, hx⟩ := hg
    obtain ⟨its, rv, isT, hz⟩ := I.tuple hq
    obtain ⟨f0, f1, f2, f3, f4, f5⟩ := hf it (by simp)
    have ln : its.toArray.size = i := by
      have := rv.length
      simp
      omega
    have end1 : s.heap.IsTupleIter it a its.toArray.size := by rw [ln]; exact hit
    exact wpAny_pyNext_enum_endD (Draws.tuple (show X.A.in1.handled = none from I.ok.hd hc) it a n2 its.toArray) he ⟨end1, isT⟩ fun h1 eb => ⟨rfl, I.turned (t' := s.toks) (fun b o hb q => eb b o hb q) f0 f1 f3 f4 f5⟩
  self := fun A i s Q E st h => by
    obtain ⟨⟨_, he⟩, _⟩ := st
    exact wpAny_pyIter_enum he h
def iEnumT (K : PySem.W.Frag) (ta : TA) : TI := fun σ H R => ta σ H fun vs H1 => ∃ a xs, vs = [.ref a] ∧ SqT K H1 a xs ∧ R (IteT K a) H1
theorem pi_enumT {X : Cx} {e : Expr} {ta : TA} {p pos tp : Pos} {es : List Expr} {kk : Nat} (hg : Gl X "enumerate") (hm : X.mg "enumerate" = none) (ha : PA X [e] ta) (hs : starEach [e] X.env = [(false, eval e X.env)] := by rfl) :
    PI X (.Tuple es kk tp) (.Call (.Name "enumerate" p) [e] [] pos) (iEnumT X.K ta) := by
  refine ⟨fun pins s σ H R I h => ?_⟩
  refine Call_ (ld_blt I hg hm boot_enumerate (PyProof.Rows.callWith_type1 (thn (ha.run pos pins s σ H _ I h) fun us s1 z => ?_) hs rfl))
  obtain ⟨vs, H1, I1, r1, a, xs, ex, hq, q⟩ := z
  subst ex
  cases r1 with
  | cons r rr =>
    cases rr
    cases r
    obtain ⟨its, rv, isT, hz⟩ := I1.tuple hq
    have la : a < s1.heap.objs.size := by obtain ⟨o, ho, _⟩ := isT; exact Heap.lt_size ho
    refine enumT_call (show s1.heap.IsTuple a its.toArray from isT) fun h1 he hit hsz hk => wpAny_pyIter_enum he ?_
    have I2 : L2.Inv X pins σ H1 { s1 with heap := h1 } := I1.kept (t' := s1.toks) hk
    refine ⟨s1.heap.objs.size + 1, [s1.heap.objs.size + 1, s1.heap.objs.size], _, _, H1, rfl, I2, turn_enumT a (s1.heap.objs.size + 1) s1.heap.objs.size, ⟨⟨.none, he⟩, hit, Nat.succ_ne_self _, Nat.ne_of_lt la⟩, fun b hb => ?_, q⟩
    have lb : s1.heap.objs.size ≤ b := by
      rcases (by simpa using hb : b = s1.heap.objs.size + 1 ∨ b = s1.heap.objs.size) with z | z
      · rw [z]; exact Nat.le_succ _
      · rw [z]; exact Nat.le_refl _
    exact I1.fpOk lb (I1.hok.fresh lb)
theorem walk_enumT {K : PySem.W.Frag} {a : Addr} {xs : List V} : L2.Walk (IteT K a) xs.length (fun H => SqT K H a xs) (YPair (fun i => some (.int (i : Nat))) (fun i => xs[i]?)) := by
  refine ⟨fun i _ hi q => ⟨xs, xs[i], q, List.getElem?_eq_getElem hi⟩, fun _ q => ⟨xs, q, rfl⟩, fun i H v H' _ q y => ?_⟩
  obtain ⟨T, x, h1, h2, h3, h4⟩ := y
  exact ⟨T, .int (i : Nat), x, h1, h2, h3, rfl, h4 xs q⟩
/-! ### a tuple once -/
theorem tup_once (a : Addr) (us : Array Value) (m : Nat) (od : Option Addr) (ol : Array (Option Value)) (u : Tok) :
    Meets (Builtin.«tuple.__mul__» ⟨[.ref a, .int 1 u], []⟩) (fun _ R s => s.heap.get? a = some ⟨.type "tuple", od, .seq us m, ol⟩ ∧ R (.ok (.ret (Value.ref a))) s) := by
  refine .of_wp fun P w A R st z => ?_
  obtain ⟨h0, g0, d0, t0, o0⟩ := st
  obtain ⟨e0, z⟩ := z
  have f1 := AutoSeq1.idx_int
  have c1 : (us.isEmpty || (1 : Int) == 1) = true := by simp
  wp_walk using AutoSeq1.wpAny_loadPart' e0
  all_goals (repeat (first
    | (refine wpAny_ite_true c1 ?_; wp_walk using AutoSeq1.wpAny_loadPart' e0)
    | (refine wpAny_ite_false (decide_eq_false (by decide)) ?_; wp_walk using AutoSeq1.wpAny_loadPart' e0)))
  all_goals exact ⟨_, rfl, z⟩
/-- a tuple, a number of times from one on -/
def rRepA (K : PySem.W.Frag) : R2 := fun x y H Q => ∃ l k xs, x = .ref l ∧ y = .int k ∧ SqT K H l xs ∧ xs ≠ [] ∧ 1 ≤ k ∧ k ≤ 1000 ∧ xs.length ≤ 1000 ∧ (k = 1 → Q (.ref l) H) ∧ (2 ≤ k → ∀ p, H p = none → Q (.ref p) (upd H p (.tup (List.replicate k.toNat xs).flatten)))
theorem op_repA {X : Cx} : OpR X (binaryOp .Mult) (rRepA X.K) := by
  intro pins s σ H x y v u Q I rx ry h
  obtain ⟨l, k, xs, ex, ey, hT, hne, h1, h2, hz, q1, q2⟩ := h
  by_cases one : k = 1
  · subst ex ey one
    cases rx
    obtain ⟨t, rfl⟩ := ry
    obtain ⟨its, r, ⟨⟨c, od, dt, ol⟩, ho, hc, m, hd⟩, hs⟩ := I.tuple hT
    simp only at hc hd
    subst hc hd
    refine wpAny_binaryOp_repeat_ref (T := "tuple") (U := "int") (by decide) ⟨_, ho, rfl⟩ (fun s' => typeIs_int s' 1 t) noFill_tuple_mul F.fills_int_mul F.slot_int_rmul repeat_tuple F.slot_int_index.lookup
      (call_meets F.slot_int_rmul (typeIs_int s 1 t) F.entry_int_rmul (F.args_int_rmul_2 _ _) (int_rmul_tuple 1 t l its.toArray m od ol) ⟨ho, rfl, ⟨_, ho, rfl⟩, call_meets F.slot_tuple_mul ⟨_, ho, rfl⟩ F.entry_tuple_mul (F.args_tuple_mul_2 _ _) (tup_once l its.toArray m od ol t) ⟨ho, ?_⟩⟩)
    exact ⟨.ref l, _, I, rfl, q1 rfl⟩
  · exact op_repT pins s σ H x y v u Q I rx ry ⟨l, k, xs, ex, ey, hT, hne, by omega, h2, hz, q2 (by omega)⟩
end Sk


/-! The machine of the document, in plain words. -/
namespace Sk
open PySem PySem.Spec PyProof.Rows L2
inductive Rule where
  | counts (m : Nat)
  | marks (hs : List Nat)
  | keeps
/-- what a step does -/
inductive Stp where
  | rests
  | takes (c : Nat)
  | reads (c : Nat)
  | ends (a : V)
  | links (c : Nat)
  | marks (c : Nat)
  | looks (b : Bool)
  | follows (c : Nat)
  | exchanges (c : Nat)
  | misses
/-- a hand: its deeds, how many are done, its cell, what it read, the next that it follows, its mark, whether it looked, what it answered -/
structure Hand where
  deeds : List Deed
  at_ : Nat
  cell : Nat
  seen : Option (Nat × Nat)
  follow : Option Nat
  mark : Nat
  looked : Bool
  said : List V
structure Mach where
  vals : List Int
  links : List Nat
  top : Nat
  count : Nat
  free : List Nat
  ends : List (Nat × Nat)
  stale : Bool
  hands : List Hand
def Hand.again (h : Hand) : Hand := { h with seen := none, follow := none, looked := false }
def Hand.did (h : Hand) (a : V) : Hand := { h with said := h.said ++ [a], at_ := h.at_ + 1, cell := 0, mark := 0, seen := none, follow := none, looked := false }
def Hand.new (ds : List Deed) : Hand := ⟨ds, 0, 0, none, none, 0, false, []⟩
def Mach.begun (xs : List Int) (ps : List (List Deed)) : Mach := ⟨xs, List.range xs.length, xs.length, 0, [], [], false, ps.map Hand.new⟩
def Mach.put (s : Mach) (i : Nat) (h : Hand) : Mach := { s with hands := s.hands.set i h }
/-- the free cell that a push takes -/
def pick (r : Rule) (s : Mach) : Option Nat := match r with
  | .keeps => none
  | _ => s.free.find? fun c => !((s.hands.map Hand.mark).contains c)
def bump (r : Rule) (n : Nat) : Nat := match r with
  | .counts m => (n + 1) % m
  | _ => n
/-- the hand must mark what it reads -/
def mustMark (r : Rule) (i : Nat) : Bool := match r with
  | .marks hs => hs.contains i
  | _ => false
def linkAt (ls : List Nat) (c : Nat) : Nat := ls.getD (c - 1) 0
def valAt (vs : List Int) (c : Nat) : Int := vs.getD (c - 1) 0
/-- a step of hand i, h as it stands -/
def go (r : Rule) (s : Mach) (i : Nat) (h : Hand) : Stp × Mach :=
  match h.deeds[h.at_]? with
  | none => (.rests, s)
  | some (.push v) =>
    if h.cell = 0 then
      match pick r s with
      | none => (.takes (s.vals.length + 1), { s with vals := s.vals ++ [v], links := s.links ++ [0], hands := s.hands.set i { h with cell := s.vals.length + 1 } })
      | some c => (.takes c, { s with vals := s.vals.set (c - 1) v, free := s.free.erase c, hands := s.hands.set i { h with cell := c } })
    else match h.seen with
      | none => (.reads s.top, s.put i { h with seen := some (s.top, s.count) })
      | some (t, k) => match h.follow with
        | none => (.links t, { s with links := s.links.set (h.cell - 1) t, hands := s.hands.set i { h with follow := some t } })
        | some _ => if s.top = t ∧ s.count = k then (.ends (.str "done"), { s with top := h.cell, count := bump r s.count, ends := s.ends ++ [(i, h.at_)], hands := s.hands.set i (h.did (.str "done")) }) else (.misses, s.put i h.again)
  | some .pop =>
    match h.seen with
    | none => if s.top = 0 then (.ends .non, { s with ends := s.ends ++ [(i, h.at_)], hands := s.hands.set i (h.did .non) }) else (.reads s.top, s.put i { h with seen := some (s.top, s.count) })
    | some (t, k) =>
      if 0 < h.cell then (.ends (.int (valAt s.vals h.cell)), { s with free := s.free ++ [h.cell], hands := s.hands.set i (h.did (.int (valAt s.vals h.cell))) })
      else if mustMark r i = true ∧ h.looked = false then
        if h.mark ≠ t then (.marks t, s.put i { h with mark := t })
        else if s.top = t then (.looks true, s.put i { h with looked := true })
        else (.looks false, s.put i { h with looked := false }.again)
      else match h.follow with
        | none => (.follows (linkAt s.links t), s.put i { h with follow := some (linkAt s.links t) })
        | some f => if s.top = t ∧ s.count = k then (.exchanges f, { s with top := f, count := bump r s.count, ends := s.ends ++ [(i, h.at_)], stale := s.stale || (linkAt s.links t != f), hands := s.hands.set i { h with cell := t } }) else (.misses, s.put i h.again)
/-- a step of hand i -/
def turn (r : Rule) (s : Mach) (i : Nat) : Stp × Mach := match s.hands[i]? with
  | none => (.rests, s)
  | some h => go r s i h
/-- a weaving's steps, and where it comes to -/
def play (r : Rule) : Mach → List Nat → List Stp × Mach
  | s, [] => ([], s)
  | s, i :: w => ((turn r s i).1 :: (play r (turn r s i).2 w).1, (play r (turn r s i).2 w).2)
/-- the cells from t on, each the next of the one ahead, as far as none comes again -/
def pileFrom (ls : List Nat) : Nat → List Nat → Nat → List Nat
  | 0, acc, _ => acc
  | n + 1, acc, t => if t = 0 ∨ t ∈ acc then acc else pileFrom ls n (acc ++ [t]) (linkAt ls t)
def Mach.pile (s : Mach) : List Nat := pileFrom s.links (s.links.length + 1) [] s.top
def Mach.done (s : Mach) : Bool := s.hands.all fun h => decide (h.deeds.length ≤ h.at_)
/-! ### each step's kind -/
inductive Go (r : Rule) (s : Mach) (i : Nat) (h : Hand) : Stp → Mach → Prop
  | rests : h.deeds[h.at_]? = none → Go r s i h .rests s
  | takesNew (v : Int) : h.deeds[h.at_]? = some (.push v) → h.cell = 0 → pick r s = none → Go r s i h (.takes (s.vals.length + 1)) { s with vals := s.vals ++ [v], links := s.links ++ [0], hands := s.hands.set i { h with cell := s.vals.length + 1 } }
  | takesFree (v : Int) (c : Nat) : h.deeds[h.at_]? = some (.push v) → h.cell = 0 → pick r s = some c → Go r s i h (.takes c) { s with vals := s.vals.set (c - 1) v, free := s.free.erase c, hands := s.hands.set i { h with cell := c } }
  | readsPush (v : Int) : h.deeds[h.at_]? = some (.push v) → h.cell ≠ 0 → h.seen = none → Go r s i h (.reads s.top) (s.put i { h with seen := some (s.top, s.count) })
  | links (v : Int) (t k : Nat) : h.deeds[h.at_]? = some (.push v) → h.cell ≠ 0 → h.seen = some (t, k) → h.follow = none → Go r s i h (.links t) { s with links := s.links.set (h.cell - 1) t, hands := s.hands.set i { h with follow := some t } }
  | pushes (v : Int) (f : Nat) : h.deeds[h.at_]? = some (.push v) → h.cell ≠ 0 → h.seen = some (s.top, s.count) → h.follow = some f →
      Go r s i h (.ends (.str "done")) { s with top := h.cell, count := bump r s.count, ends := s.ends ++ [(i, h.at_)], hands := s.hands.set i (h.did (.str "done")) }
  | missPush (v : Int) (t k f : Nat) : h.deeds[h.at_]? = some (.push v) → h.cell ≠ 0 → h.seen = some (t, k) → h.follow = some f → ¬ (s.top = t ∧ s.count = k) → Go r s i h .misses (s.put i h.again)
  | meets : h.deeds[h.at_]? = some .pop → h.seen = none → s.top = 0 → Go r s i h (.ends .non) { s with ends := s.ends ++ [(i, h.at_)], hands := s.hands.set i (h.did .non) }
  | readsPop : h.deeds[h.at_]? = some .pop → h.seen = none → s.top ≠ 0 → Go r s i h (.reads s.top) (s.put i { h with seen := some (s.top, s.count) })
  | lets (t k : Nat) : h.deeds[h.at_]? = some .pop → h.seen = some (t, k) → h.cell ≠ 0 → Go r s i h (.ends (.int (valAt s.vals h.cell))) { s with free := s.free ++ [h.cell], hands := s.hands.set i (h.did (.int (valAt s.vals h.cell))) }
  | marks (t k : Nat) : h.deeds[h.at_]? = some .pop → h.seen = some (t, k) → h.cell = 0 → mustMark r i = true → h.looked = false → h.mark ≠ t → Go r s i h (.marks t) (s.put i { h with mark := t })
  | looks (t k : Nat) : h.deeds[h.at_]? = some .pop → h.seen = some (t, k) → h.cell = 0 → mustMark r i = true → h.looked = false → h.mark = t → s.top = t → Go r s i h (.looks true) (s.put i { h with looked := true })
  | looksNot (t k : Nat) : h.deeds[h.at_]? = some .pop → h.seen = some (t, k) → h.cell = 0 → mustMark r i = true → h.looked = false → h.mark = t → s.top ≠ t → Go r s i h (.looks false) (s.put i h.again)
  | follows (t k : Nat) : h.deeds[h.at_]? = some .pop → h.seen = some (t, k) → h.cell = 0 → (mustMark r i = true → h.looked = true) → h.follow = none → Go r s i h (.follows (linkAt s.links t)) (s.put i { h with follow := some (linkAt s.links t) })
  | pops (f : Nat) : h.deeds[h.at_]? = some .pop → h.seen = some (s.top, s.count) → h.cell = 0 → (mustMark r i = true → h.looked = true) → h.follow = some f →
      Go r s i h (.exchanges f) { s with top := f, count := bump r s.count, ends := s.ends ++ [(i, h.at_)], stale := s.stale || (linkAt s.links s.top != f), hands := s.hands.set i { h with cell := s.top } }
  | missPop (t k f : Nat) : h.deeds[h.at_]? = some .pop → h.seen = some (t, k) → h.cell = 0 → (mustMark r i = true → h.looked = true) → h.follow = some f → ¬ (s.top = t ∧ s.count = k) → Go r s i h .misses (s.put i h.again)
theorem go_kind (r : Rule) (s : Mach) (i : Nat) (h : Hand) : Go r s i h (go r s i h).1 (go r s i h).2 := by
  unfold go
  split
  · exact .rests ‹_›
  · rename_i v e
    split
    · rename_i hc
      split
      · exact .takesNew v e hc ‹_›
      · exact .takesFree v _ e hc ‹_›
    · rename_i hc
      split
      · exact .readsPush v e hc ‹_›
      · rename_i t k hs
        split
        · exact .links v t k e hc hs ‹_›
        · rename_i f hf
          split
          · rename_i q
            obtain ⟨rfl, rfl⟩ := q
            exact .pushes v f e hc hs hf
          · exact .missPush v t k f e hc hs hf ‹_›
  · rename_i e
    split
    · rename_i hs
      split
      · exact .meets e hs ‹_›
      · exact .readsPop e hs ‹_›
    · rename_i t k hs
      split
      · exact .lets t k e hs (by omega)
      · rename_i hc
        have hc0 : h.cell = 0 := by omega
        split
        · rename_i hm
          obtain ⟨hm, hl⟩ := hm
          split
          · exact .marks t k e hs hc0 hm hl ‹_›
          · rename_i hk
            have hk' : h.mark = t := Classical.not_not.mp hk
            split
            · exact .looks t k e hs hc0 hm hl hk' ‹_›
            · exact .looksNot t k e hs hc0 hm hl hk' ‹_›
        · rename_i hm
          have hm' : mustMark r i = true → h.looked = true := fun q => by
            cases hl : h.looked with
            | true => rfl
            | false => exact absurd ⟨q, hl⟩ hm
          split
          · exact .follows t k e hs hc0 hm' ‹_›
          · rename_i f hf
            split
            · rename_i q
              obtain ⟨rfl, rfl⟩ := q
              exact .pops f e hs hc0 hm' hf
            · exact .missPop t k f e hs hc0 hm' hf ‹_›
end Sk


/-! As long as no exchange was stale: each cell once, values and answers those of the decided deeds. -/
namespace Sk
open PySem PySem.Spec PyProof.Rows L2
def own (h : Hand) (c : Nat) : Nat := if h.cell = c ∧ c ≠ 0 then 1 else 0
def held (hs : List Hand) : List Nat := hs.flatMap fun h => if h.cell = 0 then [] else [h.cell]
theorem own_count (h : Hand) (c : Nat) : (if h.cell = 0 then [] else [h.cell]).count c = own h c := by
  unfold own
  by_cases h0 : h.cell = 0
  · rw [if_pos h0, if_neg (by omega)]
    rfl
  · rw [if_neg h0, List.count_singleton]
    by_cases e : h.cell = c
    · rw [if_pos (by simp [e]), if_pos (by omega)]
    · rw [if_neg (by simpa using e), if_neg (by omega)]
theorem held_cons (h : Hand) (hs : List Hand) (c : Nat) : (held (h :: hs)).count c = own h c + (held hs).count c := by
  unfold held
  rw [List.flatMap_cons, List.count_append, own_count]
theorem held_set : ∀ (hs : List Hand) (i : Nat) (h h' : Hand) (c : Nat), hs[i]? = some h → (held (hs.set i h')).count c + own h c = (held hs).count c + own h' c
  | [], i, h, h', c, e => by simp at e
  | g :: hs, 0, h, h', c, e => by
    simp at e
    subst e
    rw [List.set_cons_zero, held_cons, held_cons]
    omega
  | g :: hs, i + 1, h, h', c, e => by
    have := held_set hs i h h' c (by simpa using e)
    rw [List.set_cons_succ, held_cons, held_cons]
    omega
theorem own_le : ∀ (hs : List Hand) (i : Nat) (h : Hand) (c : Nat), hs[i]? = some h → own h c ≤ (held hs).count c
  | [], i, h, c, e => by simp at e
  | g :: hs, 0, h, c, e => by
    simp at e
    subst e
    rw [held_cons]
    omega
  | g :: hs, i + 1, h, c, e => by
    have := own_le hs i h c (by simpa using e)
    rw [held_cons]
    omega
theorem own_two {hs : List Hand} {i j : Nat} {h g : Hand} (c : Nat) (hi : hs[i]? = some h) (hj : hs[j]? = some g) (n : i ≠ j) : own h c + own g c ≤ (held hs).count c := by
  have e := held_set hs i h { h with cell := 0 } c hi
  have z : own { h with cell := 0 } c = 0 := by
    unfold own
    rw [if_neg (by show ¬ (0 = c ∧ c ≠ 0); omega)]
  have := own_le (hs.set i { h with cell := 0 }) j g c (by rw [List.getElem?_set_ne n]; exact hj)
  omega
theorem own_self {h : Hand} (n : h.cell ≠ 0) : own h h.cell = 1 := by
  unfold own
  rw [if_pos ⟨rfl, n⟩]
/-- P from t down -/
def Chain (ls : List Nat) : Nat → List Nat → Prop
  | t, [] => t = 0
  | t, c :: P => t = c ∧ c ≠ 0 ∧ Chain ls (linkAt ls c) P
theorem Chain.frame {ls ls' : List Nat} : ∀ {P : List Nat} {t : Nat}, (∀ c ∈ P, linkAt ls' c = linkAt ls c) → Chain ls t P → Chain ls' t P
  | [], _, _, h => h
  | c :: P, _, k, h => ⟨h.1, h.2.1, by
    rw [k c List.mem_cons_self]
    exact Chain.frame (fun d hd => k d (List.mem_cons_of_mem _ hd)) h.2.2⟩
def deedAt (ps : List (List Deed)) (e : Nat × Nat) : Deed := ((ps.getD e.1 []).getD e.2 .pop)
def decided (ps : List (List Deed)) (es : List (Nat × Nat)) : List Deed := es.map (deedAt ps)
/-- answers of hand i's deeds in the order -/
def ownAns (i : Nat) (es : List (Nat × Nat)) (as : List V) : List V := ((es.zip as).filter fun p => decide (p.1.1 = i)).map (·.2)
def ownEnds (i : Nat) (es : List (Nat × Nat)) : List Nat := (es.filter fun p => decide (p.1 = i)).map (·.2)
/-- a pop that has exchanged and not ended -/
def pend (h : Hand) : Bool := match h.deeds[h.at_]? with
  | some .pop => decide (h.cell ≠ 0)
  | _ => false
theorem acts_snoc (xs : List Int) (ds : List Deed) (d : Deed) : acts xs (ds ++ [d]) = ((acts xs ds).1 ++ [(act (acts xs ds).2 d).1], (act (acts xs ds).2 d).2) := by
  unfold acts
  rw [List.foldl_append]
  rfl
theorem ownAns_snoc {i : Nat} {es : List (Nat × Nat)} {as : List V} {e : Nat × Nat} {a : V} (h : es.length = as.length) : ownAns i (es ++ [e]) (as ++ [a]) = ownAns i es as ++ (if e.1 = i then [a] else []) := by
  unfold ownAns
  rw [List.zip_append h, List.filter_append, List.map_append]
  by_cases q : e.1 = i
  · rw [if_pos q]
    simp [q]
  · rw [if_neg q]
    simp [q]
theorem ownEnds_snoc {i : Nat} {es : List (Nat × Nat)} {e : Nat × Nat} : ownEnds i (es ++ [e]) = ownEnds i es ++ (if e.1 = i then [e.2] else []) := by
  unfold ownEnds
  rw [List.filter_append, List.map_append]
  by_cases q : e.1 = i
  · rw [if_pos q]
    simp [q]
  · rw [if_neg q]
    simp [q]
theorem acts_end (xs : List Int) (ps : List (List Deed)) (es : List (Nat × Nat)) (e : Nat × Nat) :
    acts xs (decided ps (es ++ [e])) = ((acts xs (decided ps es)).1 ++ [(act (acts xs (decided ps es)).2 (deedAt ps e)).1], (act (acts xs (decided ps es)).2 (deedAt ps e)).2) := by
  unfold decided
  rw [List.map_append, List.map_cons, List.map_nil, acts_snoc]
structure HandOk (xs : List Int) (ps : List (List Deed)) (s : Mach) (i : Nat) (h : Hand) : Prop where
  prog : ps[i]? = some h.deeds
  le : h.at_ ≤ h.deeds.length
  idle : h.deeds[h.at_]? = none → h.cell = 0
  fresh : h.seen = none → h.follow = none ∧ h.looked = false
  empty : ∀ v, h.deeds[h.at_]? = some (.push v) → h.cell = 0 → h.seen = none
  pushed : ∀ v, h.deeds[h.at_]? = some (.push v) → h.cell ≠ 0 → valAt s.vals h.cell = v ∧ ∀ f, h.follow = some f → linkAt s.links h.cell = f ∧ ∃ k, h.seen = some (f, k)
  seen : h.deeds[h.at_]? = some .pop → ∀ t k, h.seen = some (t, k) → t ≠ 0
  kept : h.deeds[h.at_]? = some .pop → h.cell ≠ 0 → h.seen ≠ none
  said : ownAns i s.ends (acts xs (decided ps s.ends)).1 = h.said ++ (if pend h = true then [V.int (valAt s.vals h.cell)] else [])
  own : ownEnds i s.ends = List.range (h.at_ + (if pend h = true then 1 else 0))
structure Inv (xs : List Int) (ps : List (List Deed)) (s : Mach) (P : List Nat) : Prop where
  chain : Chain s.links s.top P
  len : s.vals.length = s.links.length
  each : ∀ c, P.count c + s.free.count c + (held s.hands).count c = if 1 ≤ c ∧ c ≤ s.links.length then 1 else 0
  worth : (P.map (valAt s.vals)).reverse = (acts xs (decided ps s.ends)).2
  many : s.hands.length = ps.length
  bound : ∀ e ∈ s.ends, e.1 < ps.length
  hand : ∀ i h, s.hands[i]? = some h → HandOk xs ps s i h
section
variable {xs : List Int} {ps : List (List Deed)} {s : Mach} {P : List Nat} {i : Nat} {h : Hand} {r : Rule}
theorem len_acts : s.ends.length = (acts xs (decided ps s.ends)).1.length := by
  rw [acts_len1]
  unfold decided
  rw [List.length_map]
/-- another hand goes on -/
theorem HandOk.frame {s' : Mach} {j : Nat} {g : Hand} (k : HandOk xs ps s j g) (hv : g.cell ≠ 0 → valAt s'.vals g.cell = valAt s.vals g.cell) (hl : g.cell ≠ 0 → linkAt s'.links g.cell = linkAt s.links g.cell)
    (he : s'.ends = s.ends ∨ ∃ e : Nat × Nat, s'.ends = s.ends ++ [e] ∧ e.1 ≠ j) : HandOk xs ps s' j g := by
  refine ⟨k.prog, k.le, k.idle, k.fresh, k.empty, fun v hd hc => ?_, k.seen, k.kept, ?_, ?_⟩
  · rw [hv hc, hl hc]
    exact k.pushed v hd hc
  · have e1 : ownAns j s'.ends (acts xs (decided ps s'.ends)).1 = ownAns j s.ends (acts xs (decided ps s.ends)).1 := by
      rcases he with e | ⟨e, q, n⟩
      · rw [e]
      · rw [q, acts_end]
        show ownAns j (s.ends ++ [e]) ((acts xs (decided ps s.ends)).1 ++ [(act (acts xs (decided ps s.ends)).2 (deedAt ps e)).1]) = _
        rw [ownAns_snoc (len_acts (xs := xs) (ps := ps) (s := s)), if_neg n, List.append_nil]
    rw [e1, k.said]
    by_cases hp : pend g = true
    · rw [if_pos hp, if_pos hp]
      have hc : g.cell ≠ 0 := by
        unfold pend at hp
        split at hp
        · exact of_decide_eq_true hp
        · cases hp
      rw [hv hc]
    · rw [if_neg hp, if_neg hp]
  · have e1 : ownEnds j s'.ends = ownEnds j s.ends := by
      rcases he with e | ⟨e, q, n⟩
      · rw [e]
      · rw [q, ownEnds_snoc, if_neg n, List.append_nil]
    rw [e1, k.own]
/-- where a cell lies -/
theorem Inv.notin {c : Nat} (I : Inv xs ps s P) (hi : s.hands[i]? = some h) (hc : h.cell ≠ 0) : h.cell ∉ P ∧ h.cell ∉ s.free ∧ 1 ≤ h.cell ∧ h.cell ≤ s.links.length := by
  have e := I.each h.cell
  have o := own_le s.hands i h h.cell hi
  rw [own_self hc] at o
  split at e
  · rename_i q
    exact ⟨fun z => by have := List.count_pos_iff.mpr z; omega, fun z => by have := List.count_pos_iff.mpr z; omega, q.1, q.2⟩
  · omega
theorem Inv.other {j : Nat} {g : Hand} (I : Inv xs ps s P) (hi : s.hands[i]? = some h) (hj : s.hands[j]? = some g) (n : i ≠ j) (hc : h.cell ≠ 0) : g.cell ≠ h.cell := fun q => by
  have e := I.each h.cell
  have o := own_two (c := h.cell) hi hj n
  have o2 : own g h.cell = 1 := by rw [← q] at hc ⊢; exact own_self hc
  rw [own_self hc, o2] at o
  split at e <;> omega
theorem Inv.freeIn {c : Nat} (I : Inv xs ps s P) (hc : c ∈ s.free) : c ∉ P ∧ 1 ≤ c ∧ c ≤ s.links.length ∧ (held s.hands).count c = 0 ∧ s.free.count c = 1 ∧ P.count c = 0 := by
  have e := I.each c
  have := List.count_pos_iff.mpr hc
  split at e
  · rename_i q
    exact ⟨fun z => by have := List.count_pos_iff.mpr z; omega, q.1, q.2, by omega, by omega, by omega⟩
  · omega
theorem Inv.pileIn {c : Nat} (I : Inv xs ps s P) (hc : c ∈ P) : c ∉ s.free ∧ 1 ≤ c ∧ c ≤ s.links.length ∧ (held s.hands).count c = 0 := by
  have e := I.each c
  have := List.count_pos_iff.mpr hc
  split at e
  · rename_i q
    exact ⟨fun z => by have := List.count_pos_iff.mpr z; omega, q.1, q.2, by omega⟩
  · omega
theorem Inv.cellNot {c : Nat} (I : Inv xs ps s P) (hz : (held s.hands).count c = 0) (hc : c ≠ 0) (hi : s.hands[i]? = some h) : h.cell ≠ c := fun q => by
  have o := own_le s.hands i h c hi
  rw [← q] at o hc
  rw [own_self hc] at o
  rw [← q] at hz
  omega
theorem pick_mem {c : Nat} (e : pick r s = some c) : c ∈ s.free := by
  unfold pick at e
  split at e
  · cases e
  · exact List.mem_of_find?_eq_some e
theorem pick_marks {c : Nat} (e : pick r s = some c) (g : Hand) (hg : g ∈ s.hands) : g.mark ≠ c := by
  unfold pick at e
  split at e
  · cases e
  · have := List.find?_some e
    intro q
    simp at this
    exact this g hg q
theorem getD_append_lt {α : Type} {l : List α} {x d : α} {n : Nat} (h : n < l.length) : (l ++ [x]).getD n d = l.getD n d := by
  simp [List.getD, List.getElem?_append_left h]
theorem valAt_append {vs : List Int} {v : Int} {c : Nat} (h1 : 1 ≤ c) (h : c ≤ vs.length) : valAt (vs ++ [v]) c = valAt vs c := getD_append_lt (by omega)
theorem linkAt_append {ls : List Nat} {v : Nat} {c : Nat} (h1 : 1 ≤ c) (h : c ≤ ls.length) : linkAt (ls ++ [v]) c = linkAt ls c := getD_append_lt (by omega)
theorem getD_set_ne {α : Type} {l : List α} {x d : α} {n m : Nat} (h : n ≠ m) : (l.set n x).getD m d = l.getD m d := by
  simp [List.getD, List.getElem?_set_ne h]
theorem getD_set_eq {α : Type} {l : List α} {x d : α} {n : Nat} (h : n < l.length) : (l.set n x).getD n d = x := by
  simp [List.getD, List.getElem?_set_self h]
theorem valAt_set {vs : List Int} {v : Int} {a c : Nat} (h1 : 1 ≤ a) (h2 : 1 ≤ c) (n : a ≠ c) : valAt (vs.set (a - 1) v) c = valAt vs c := getD_set_ne (by omega)
theorem linkAt_set {ls : List Nat} {v : Nat} {a c : Nat} (h1 : 1 ≤ a) (h2 : 1 ≤ c) (n : a ≠ c) : linkAt (ls.set (a - 1) v) c = linkAt ls c := getD_set_ne (by omega)
theorem get_set_cases {hs : List Hand} {j : Nat} {g h' : Hand} (hi : i < hs.length) (e : (hs.set i h')[j]? = some g) : (j = i ∧ g = h') ∨ (j ≠ i ∧ hs[j]? = some g) := by
  by_cases q : j = i
  · subst q
    rw [List.getElem?_set_self hi] at e
    exact .inl ⟨rfl, (Option.some.inj e).symm⟩
  · rw [List.getElem?_set_ne (Ne.symm q)] at e
    exact .inr ⟨q, e⟩
theorem lt_of_get {α : Type} {l : List α} {n : Nat} {x : α} (h : l[n]? = some x) : n < l.length := (List.getElem?_eq_some_iff.mp h).1
end
end Sk


namespace Sk
open PySem PySem.Spec PyProof.Rows L2
/-- the pile behind a step -/
def pileBy (h : Hand) (st : Stp) (P : List Nat) : List Nat := match st with
  | .exchanges _ => P.tail
  | .ends _ => (match h.deeds[h.at_]? with
    | some (.push _) => h.cell :: P
    | _ => P)
  | _ => P
section
variable {xs : List Int} {ps : List (List Deed)} {s : Mach} {P : List Nat} {i : Nat} {h : Hand} {r : Rule}
theorem Inv.mk2 {s' : Mach} {P' : List Nat} {h' : Hand} (I : Inv xs ps s P) (hi : s.hands[i]? = some h) (eh : s'.hands = s.hands.set i h') (chain : Chain s'.links s'.top P') (len : s'.vals.length = s'.links.length)
    (each : ∀ c, P'.count c + s'.free.count c + ((held s.hands).count c + own h' c - own h c) = if 1 ≤ c ∧ c ≤ s'.links.length then 1 else 0)
    (worth : (P'.map (valAt s'.vals)).reverse = (acts xs (decided ps s'.ends)).2) (he : s'.ends = s.ends ∨ ∃ n, s'.ends = s.ends ++ [(i, n)])
    (fr : ∀ j g, j ≠ i → s.hands[j]? = some g → g.cell ≠ 0 → valAt s'.vals g.cell = valAt s.vals g.cell ∧ linkAt s'.links g.cell = linkAt s.links g.cell) (ok : HandOk xs ps s' i h') : Inv xs ps s' P' := by
  refine ⟨chain, len, fun c => ?_, worth, by rw [eh, List.length_set]; exact I.many, fun e hm => ?_, fun j g hj => ?_⟩
  · have e := held_set s.hands i h h' c hi
    have := each c
    rw [eh]
    omega
  · rcases he with q | ⟨n, q⟩
    · exact I.bound e (q ▸ hm)
    · rw [q] at hm
      rcases List.mem_append.mp hm with hm | hm
      · exact I.bound e hm
      · rw [List.mem_singleton.mp hm, ← I.many]
        exact lt_of_get hi
  · rw [eh] at hj
    rcases get_set_cases (lt_of_get hi) hj with ⟨rfl, rfl⟩ | ⟨n, hj⟩
    · exact ok
    · refine (I.hand j g hj).frame (fun q => (fr j g n hj q).1) (fun q => (fr j g n hj q).2) ?_
      rcases he with e | ⟨m, e⟩
      · exact .inl e
      · exact .inr ⟨_, e, fun q => n q.symm⟩
theorem own_same {h h' : Hand} (e : h'.cell = h.cell) (c : Nat) : own h' c = own h c := by
  unfold own
  rw [e]
theorem Inv.put {h' : Hand} (I : Inv xs ps s P) (hi : s.hands[i]? = some h) (hc : h'.cell = h.cell) (ok : HandOk xs ps s i h') : Inv xs ps (s.put i h') P := by
  refine I.mk2 (h' := h') hi rfl I.chain I.len (fun c => ?_) I.worth (.inl rfl) (fun _ _ _ _ _ => ⟨rfl, rfl⟩) ⟨ok.prog, ok.le, ok.idle, ok.fresh, ok.empty, ok.pushed, ok.seen, ok.kept, ok.said, ok.own⟩
  have e := I.each c
  have o := own_le s.hands i h c hi
  rw [own_same hc]
  show P.count c + s.free.count c + _ = if 1 ≤ c ∧ c ≤ s.links.length then 1 else 0
  omega
theorem pend_push {v : Int} (e : h.deeds[h.at_]? = some (.push v)) : pend h = false := by
  unfold pend
  rw [e]
theorem pend_pop (e : h.deeds[h.at_]? = some .pop) : pend h = decide (h.cell ≠ 0) := by
  unfold pend
  rw [e]
theorem pend_did (a : V) : pend (h.did a) = false := by
  unfold pend
  split
  · exact decide_eq_false (by show ¬ (0 ≠ 0); omega)
  · rfl
theorem HandOk.frE {s s' : Mach} (k : HandOk xs ps s i h) (e1 : s'.vals = s.vals) (e2 : s'.links = s.links) (e3 : s'.ends = s.ends) : HandOk xs ps s' i h :=
  k.frame (fun _ => by rw [e1]) (fun _ => by rw [e2]) (.inl e3)
theorem deedAt_of {d : Deed} (hp : ps[i]? = some h.deeds) (hd : h.deeds[h.at_]? = some d) : deedAt ps (i, h.at_) = d := by
  unfold deedAt
  simp [List.getD, hp, hd]
theorem Inv.valP (I : Inv xs ps s P) : (acts xs (decided ps s.ends)).2 = (P.map (valAt s.vals)).reverse := I.worth.symm
/-- the hand whose deed ends -/
theorem HandOk.ends {s' : Mach} {d : Deed} {a : V} (k : HandOk xs ps s i h) (hd : h.deeds[h.at_]? = some d) (np : pend h = false) (he : s'.ends = s.ends ++ [(i, h.at_)]) (ha : (act (acts xs (decided ps s.ends)).2 d).1 = a) : HandOk xs ps s' i (h.did a) := by
  have hl := (List.getElem?_eq_some_iff.mp hd).1
  have ed := deedAt_of (i := i) (ps := ps) k.prog hd
  refine ⟨k.prog, by show h.at_ + 1 ≤ h.deeds.length; omega, fun _ => rfl, fun _ => ⟨rfl, rfl⟩, fun _ _ _ => rfl, fun v _ q => absurd rfl q, fun _ t kk q => (by cases q), fun _ q => absurd rfl q, ?_, ?_⟩
  · rw [he, acts_end, ed, ha]
    show ownAns i (s.ends ++ [(i, h.at_)]) ((acts xs (decided ps s.ends)).1 ++ [a]) = _
    rw [ownAns_snoc (len_acts (xs := xs) (ps := ps) (s := s)), if_pos rfl, k.said, np, pend_did]
    show h.said ++ (if false = true then _ else []) ++ [a] = (h.said ++ [a]) ++ (if false = true then _ else [])
    simp
  · rw [he, ownEnds_snoc, if_pos rfl, k.own, np, pend_did]
    show List.range (h.at_ + 0) ++ [h.at_] = List.range (h.at_ + 1 + 0)
    rw [List.range_succ]
    rfl
theorem count_erase_mem {l : List Nat} {c d : Nat} (h : c ∈ l) : (l.erase c).count d + (if d = c then 1 else 0) = l.count d := by
  by_cases q : d = c
  · subst q
    rw [if_pos rfl, List.count_erase_self]
    have := List.count_pos_iff.mpr h
    omega
  · rw [if_neg q, List.count_erase_of_ne q]
    rfl
theorem map_frame {α β : Type} {f g : α → β} {l : List α} (h : ∀ x ∈ l, f x = g x) : l.map f = l.map g := List.map_congr_left h
theorem Inv.go {st : Stp} {s' : Mach} (I : Inv xs ps s P) (hi : s.hands[i]? = some h) (G : Go r s i h st s') (ns : s'.stale = false) : Inv xs ps s' (pileBy h st P) := by
  have k := I.hand i h hi
  have hl := lt_of_get hi
  cases G with
  | rests e => exact I
  | takesNew v e hc hp =>
    refine I.mk2 (h' := { h with cell := s.vals.length + 1 }) hi rfl ?_ ?_ (fun c => ?_) ?_ (.inl rfl) (fun j g n hj gc => ?_) ?_
    · exact I.chain.frame fun c hc => linkAt_append (I.pileIn hc).2.1 (I.pileIn hc).2.2.1
    · show (s.vals ++ [v]).length = (s.links ++ [0]).length
      rw [List.length_append, List.length_append, I.len]
      rfl
    · have q := I.each c
      have o1 : own h c = 0 := by
        unfold own
        rw [if_neg (by omega)]
      have o2 : own { h with cell := s.vals.length + 1 } c = if c = s.vals.length + 1 then 1 else 0 := by
        unfold own
        show (if s.vals.length + 1 = c ∧ c ≠ 0 then 1 else 0) = _
        split <;> split <;> omega
      rw [o1, o2]
      show P.count c + s.free.count c + _ = if 1 ≤ c ∧ c ≤ (s.links ++ [0]).length then 1 else 0
      rw [List.length_append, I.len]
      have e1 : [0].length = 1 := rfl
      rw [e1]
      split at q <;> split <;> split <;> omega
    · show ((pileBy h _ P).map (valAt (s.vals ++ [v]))).reverse = (acts xs (decided ps s.ends)).2
      rw [← I.worth]
      congr 1
      exact map_frame fun c hc => valAt_append (I.pileIn hc).2.1 (by rw [I.len]; exact (I.pileIn hc).2.2.1)
    · obtain ⟨_, _, b1, b2⟩ := I.notin (c := 0) hj gc
      exact ⟨valAt_append b1 (by rw [I.len]; exact b2), linkAt_append b1 b2⟩
    · have sn := k.empty v e hc
      refine ⟨k.prog, k.le, fun q => ?_, k.fresh, fun u hd q => absurd (show s.vals.length + 1 = 0 from q) (by omega), fun u hd _ => ⟨?_, fun f hf => ?_⟩, fun q => ?_, fun q => ?_, ?_, ?_⟩
      · rw [show h.deeds[h.at_]? = none from q] at e
        cases e
      · have q := e.symm.trans (show h.deeds[h.at_]? = some (.push u) from hd)
        injection q with q
        injection q with q
        show valAt (s.vals ++ [v]) (s.vals.length + 1) = u
        unfold valAt
        simp [List.getD, q]
      · exact absurd (k.fresh sn).1 (by rw [show h.follow = some f from hf]; simp)
      · rw [show h.deeds[h.at_]? = some .pop from q] at e
        cases e
      · rw [show h.deeds[h.at_]? = some .pop from q] at e
        cases e
      · have := k.said
        rw [pend_push e] at this
        rw [pend_push (h := { h with cell := s.vals.length + 1 }) e]
        exact this
      · have := k.own
        rw [pend_push e] at this
        rw [pend_push (h := { h with cell := s.vals.length + 1 }) e]
        exact this
  | takesFree v c e hc hp =>
    have hf := pick_mem hp
    obtain ⟨f1, f2, f3, f4, f5, f6⟩ := I.freeIn hf
    have sn := k.empty v e hc
    refine I.mk2 (h' := { h with cell := c }) hi rfl ?_ ?_ (fun d => ?_) ?_ (.inl rfl) (fun j g n hj gc => ?_) ?_
    · exact I.chain
    · show (s.vals.set (c - 1) v).length = s.links.length
      rw [List.length_set, I.len]
    · have q := I.each d
      have o1 : own h d = 0 := by
        unfold own
        rw [if_neg (by omega)]
      have o2 : own { h with cell := c } d = if d = c then 1 else 0 := by
        unfold own
        show (if c = d ∧ d ≠ 0 then 1 else 0) = _
        split <;> split <;> omega
      have o3 := count_erase_mem (d := d) hf
      rw [o1, o2]
      show P.count d + (s.free.erase c).count d + _ = if 1 ≤ d ∧ d ≤ s.links.length then 1 else 0
      omega
    · show (P.map (valAt (s.vals.set (c - 1) v))).reverse = (acts xs (decided ps s.ends)).2
      rw [← I.worth]
      congr 1
      exact map_frame fun d hd => valAt_set f2 (I.pileIn hd).2.1 (fun q => f1 (q ▸ hd))
    · obtain ⟨_, b0, b1, b2⟩ := I.notin (c := 0) hj gc
      exact ⟨valAt_set f2 b1 (fun q => I.cellNot f4 (by omega) hj q.symm), rfl⟩
    · refine ⟨k.prog, k.le, fun q => ?_, k.fresh, fun u hd q => absurd (show c = 0 from q) (by omega), fun u hd _ => ⟨?_, fun f hf => ?_⟩, fun q => ?_, fun q => ?_, ?_, ?_⟩
      · rw [show h.deeds[h.at_]? = none from q] at e
        cases e
      · have q := e.symm.trans (show h.deeds[h.at_]? = some (.push u) from hd)
        injection q with q
        injection q with q
        show valAt (s.vals.set (c - 1) v) c = u
        rw [← q]
        exact getD_set_eq (by rw [I.len]; omega)
      · exact absurd (k.fresh sn).1 (by rw [show h.follow = some f from hf]; simp)
      · rw [show h.deeds[h.at_]? = some .pop from q] at e
        cases e
      · rw [show h.deeds[h.at_]? = some .pop from q] at e
        cases e
      · have := k.said
        rw [pend_push e] at this
        rw [pend_push (h := { h with cell := c }) e]
        exact this
      · have := k.own
        rw [pend_push e] at this
        rw [pend_push (h := { h with cell := c }) e]
        exact this
  | readsPush v e hc hs =>
    refine I.put (h' := { h with seen := some (s.top, s.count) }) hi rfl ⟨k.prog, k.le, k.idle, fun q => (by cases q), fun u hd q => absurd q hc, fun u hd q => ⟨(k.pushed u hd q).1, fun f hf => ?_⟩, fun q => ?_, fun _ _ q => (by cases q), k.said, k.own⟩
    · exact absurd (k.fresh hs).1 (by rw [show h.follow = some f from hf]; simp)
    · rw [show h.deeds[h.at_]? = some .pop from q] at e
      cases e
  | links v t kk e hc hs hf =>
    obtain ⟨p1, p2, p3, p4⟩ := I.notin (c := 0) hi hc
    refine I.mk2 (h' := { h with follow := some t }) hi rfl ?_ ?_ (fun d => ?_) I.worth (.inl rfl) (fun j g n hj gc => ?_) ?_
    · exact I.chain.frame fun d hd => linkAt_set p3 (I.pileIn hd).2.1 (fun q => p1 (q ▸ hd))
    · show s.vals.length = (s.links.set (h.cell - 1) t).length
      rw [List.length_set, I.len]
    · have q := I.each d
      have o := own_le s.hands i h d hi
      rw [own_same (h := h) (h' := { h with follow := some t }) rfl]
      show P.count d + s.free.count d + _ = if 1 ≤ d ∧ d ≤ (s.links.set (h.cell - 1) t).length then 1 else 0
      rw [List.length_set]
      omega
    · obtain ⟨_, _, b1, b2⟩ := I.notin (c := 0) hj gc
      exact ⟨rfl, linkAt_set p3 b1 (fun q => I.other hi hj (fun z => n z.symm) hc q.symm)⟩
    · refine ⟨k.prog, k.le, k.idle, fun q => ?_, fun u hd q => absurd q hc, fun u hd q => ⟨(k.pushed u hd q).1, fun f hf2 => ?_⟩, k.seen, k.kept, k.said, k.own⟩
      · rw [show h.seen = none from q] at hs
        cases hs
      · have ef : t = f := Option.some.inj hf2
        subst ef
        exact ⟨getD_set_eq (by omega), kk, hs⟩
  | pushes v f e hc hs hf =>
    obtain ⟨p1, p2, p3, p4⟩ := I.notin (c := 0) hi hc
    obtain ⟨v1, v2⟩ := k.pushed v e hc
    obtain ⟨l1, k2, l2⟩ := v2 f hf
    have ft : f = s.top := by
      rw [hs] at l2
      injection l2 with l2
      injection l2 with l2 _
      exact l2.symm
    have ed := deedAt_of (i := i) (ps := ps) k.prog e
    have eb : pileBy h (.ends (.str "done")) P = h.cell :: P := by
      show (match h.deeds[h.at_]? with | some (.push _) => h.cell :: P | _ => P) = _
      rw [e]
    rw [eb]
    refine I.mk2 (h' := h.did (.str "done")) hi rfl ⟨rfl, hc, ?_⟩ I.len (fun d => ?_) ?_ (.inr ⟨_, rfl⟩) (fun _ _ _ _ _ => ⟨rfl, rfl⟩) ?_
    · show Chain s.links (linkAt s.links h.cell) P
      rw [l1, ft]
      exact I.chain
    · have q := I.each d
      have o := own_le s.hands i h d hi
      have o2 : own (h.did (.str "done")) d = 0 := by
        unfold own
        rw [if_neg (by show ¬ (0 = d ∧ d ≠ 0); omega)]
      rw [o2, List.count_cons]
      show P.count d + (if (h.cell == d) = true then 1 else 0) + s.free.count d + _ = if 1 ≤ d ∧ d ≤ s.links.length then 1 else 0
      have o3 : own h d = if (h.cell == d) = true then 1 else 0 := by
        unfold own
        by_cases z : h.cell = d
        · rw [if_pos ⟨z, by omega⟩, if_pos (by simp [z])]
        · rw [if_neg (fun q => z q.1), if_neg (by simp [z])]
      omega
    · show ((h.cell :: P).map (valAt s.vals)).reverse = (acts xs (decided ps (s.ends ++ [(i, h.at_)]))).2
      rw [acts_end, ed, List.map_cons, List.reverse_cons, I.worth, v1]
      rfl
    · refine k.ends e (pend_push e) rfl ?_
      rfl
  | missPush v t kk f e hc hs hf n =>
    refine I.put (h' := h.again) hi rfl ⟨k.prog, k.le, k.idle, fun _ => ⟨rfl, rfl⟩, fun u hd q => absurd q hc, fun u hd q => ⟨(k.pushed u hd q).1, fun f hf => by cases hf⟩, fun q => ?_, fun q => ?_, k.said, k.own⟩
    · rw [show h.deeds[h.at_]? = some .pop from q] at e
      cases e
    · rw [show h.deeds[h.at_]? = some .pop from q] at e
      cases e
  | meets e hs ht =>
    have hc : h.cell = 0 := Classical.byContradiction fun q => k.kept e q hs
    have pe : P = [] := by
      have := I.chain
      rw [ht] at this
      cases P with
      | nil => rfl
      | cons c P => exact absurd this.1.symm this.2.1
    have ed := deedAt_of (i := i) (ps := ps) k.prog e
    have ew : (acts xs (decided ps s.ends)).2 = [] := by rw [← I.worth, pe]; rfl
    have eb : pileBy h (.ends .non) P = P := by
      show (match h.deeds[h.at_]? with | some (.push _) => h.cell :: P | _ => P) = _
      rw [e]
    rw [eb]
    refine I.mk2 (h' := h.did .non) hi rfl I.chain I.len (fun d => ?_) ?_ (.inr ⟨_, rfl⟩) (fun _ _ _ _ _ => ⟨rfl, rfl⟩) ?_
    · have q := I.each d
      have o2 : own (h.did .non) d = 0 := by
        unfold own
        rw [if_neg (by show ¬ (0 = d ∧ d ≠ 0); omega)]
      have o3 : own h d = 0 := by
        unfold own
        rw [if_neg (by omega)]
      rw [o2, o3]
      exact q
    · show (P.map (valAt s.vals)).reverse = (acts xs (decided ps (s.ends ++ [(i, h.at_)]))).2
      rw [acts_end, ed, ew, pe]
      rfl
    · refine k.ends e (by rw [pend_pop e]; exact decide_eq_false (by omega)) rfl ?_
      rw [ew]
      rfl
  | readsPop e hs ht =>
    refine I.put (h' := { h with seen := some (s.top, s.count) }) hi rfl ⟨k.prog, k.le, k.idle, fun q => (by cases q), fun u hd q => ?_, fun u hd => ?_, fun _ t kk q => ?_, fun _ _ q => (by cases q), k.said, k.own⟩
    · rw [show h.deeds[h.at_]? = some (.push u) from hd] at e
      cases e
    · rw [show h.deeds[h.at_]? = some (.push u) from hd] at e
      cases e
    · have q2 : (s.top, s.count) = (t, kk) := Option.some.inj q
      injection q2 with q2 _
      omega
  | lets t kk e hs hc =>
    obtain ⟨p1, p2, p3, p4⟩ := I.notin (c := 0) hi hc
    have hpd : pend h = true := by rw [pend_pop e]; exact decide_eq_true hc
    have eb : pileBy h (.ends (.int (valAt s.vals h.cell))) P = P := by
      show (match h.deeds[h.at_]? with | some (.push _) => h.cell :: P | _ => P) = _
      rw [e]
    rw [eb]
    refine I.mk2 (h' := h.did (.int (valAt s.vals h.cell))) hi rfl I.chain I.len (fun d => ?_) I.worth (.inl rfl) (fun _ _ _ _ _ => ⟨rfl, rfl⟩) ?_
    · have q := I.each d
      have o := own_le s.hands i h d hi
      have o2 : own (h.did (.int (valAt s.vals h.cell))) d = 0 := by
        unfold own
        rw [if_neg (by show ¬ (0 = d ∧ d ≠ 0); omega)]
      have o3 : own h d = if (h.cell == d) = true then 1 else 0 := by
        unfold own
        by_cases z : h.cell = d
        · rw [if_pos ⟨z, by omega⟩, if_pos (by simp [z])]
        · rw [if_neg (fun q => z q.1), if_neg (by simp [z])]
      rw [o2]
      show P.count d + (s.free ++ [h.cell]).count d + _ = if 1 ≤ d ∧ d ≤ s.links.length then 1 else 0
      rw [List.count_append, List.count_singleton]
      omega
    · have hl := (List.getElem?_eq_some_iff.mp e).1
      refine ⟨k.prog, by show h.at_ + 1 ≤ h.deeds.length; omega, fun _ => rfl, fun _ => ⟨rfl, rfl⟩, fun _ _ _ => rfl, fun v _ q => absurd rfl q, fun _ t kk q => (by cases q), fun _ q => absurd rfl q, ?_, ?_⟩
      · have q := k.said
        rw [hpd] at q
        rw [pend_did]
        show ownAns i s.ends _ = (h.said ++ [_]) ++ []
        rw [List.append_nil]
        exact q
      · have q := k.own
        rw [hpd] at q
        rw [pend_did]
        exact q
  | marks t kk e hs hc hm hl hk =>
    exact I.put (h' := { h with mark := t }) hi rfl ⟨k.prog, k.le, k.idle, k.fresh, k.empty, k.pushed, k.seen, k.kept, k.said, k.own⟩
  | looks t kk e hs hc hm hl hk ht =>
    exact I.put (h' := { h with looked := true }) hi rfl ⟨k.prog, k.le, k.idle, fun q => (by rw [show h.seen = none from q] at hs; cases hs), k.empty, k.pushed, k.seen, k.kept, k.said, k.own⟩
  | looksNot t kk e hs hc hm hl hk ht =>
    refine I.put (h' := h.again) hi rfl ⟨k.prog, k.le, k.idle, fun _ => ⟨rfl, rfl⟩, fun _ _ _ => rfl, fun u hd q => absurd hc q, fun _ _ _ q => (by cases q), fun _ q => absurd hc q, k.said, k.own⟩
  | follows t kk e hs hc hm hf =>
    refine I.put (h' := { h with follow := some (linkAt s.links t) }) hi rfl ⟨k.prog, k.le, k.idle, fun q => ?_, fun u hd q => ?_, fun u hd q => absurd hc q, k.seen, k.kept, k.said, k.own⟩
    · rw [show h.seen = none from q] at hs
      cases hs
    · rw [show h.deeds[h.at_]? = some (.push u) from hd] at e
      cases e
  | pops f e hs hc hm hf =>
    have t0 := k.seen e _ _ hs
    obtain ⟨c, P2, rfl⟩ : ∃ c P2, P = c :: P2 := by
      cases P with
      | nil => exact absurd I.chain t0
      | cons c P2 => exact ⟨c, P2, rfl⟩
    obtain ⟨ct, c0, ch⟩ := I.chain
    subst ct
    have lf : linkAt s.links s.top = f := by
      have q : (s.stale || (linkAt s.links s.top != f)) = false := ns
      have q2 := (Bool.or_eq_false_iff.mp q).2
      simpa using q2
    have ed := deedAt_of (i := i) (ps := ps) k.prog e
    obtain ⟨q1, q2, q3, q4⟩ := I.pileIn (c := s.top) List.mem_cons_self
    have aw : (acts xs (decided ps s.ends)).2 = (P2.map (valAt s.vals)).reverse ++ [valAt s.vals s.top] := by
      rw [← I.worth, List.map_cons, List.reverse_cons]
    have ax : act (acts xs (decided ps s.ends)).2 .pop = (.int (valAt s.vals s.top), (P2.map (valAt s.vals)).reverse) := by
      rw [aw]
      unfold act
      simp
    refine I.mk2 (P' := P2) (h' := { h with cell := s.top }) hi rfl ?_ I.len (fun d => ?_) ?_ (.inr ⟨_, rfl⟩) (fun _ _ _ _ _ => ⟨rfl, rfl⟩) ?_
    · show Chain s.links f P2
      rw [← lf]
      exact ch
    · have q := I.each d
      have o1 : own h d = 0 := by
        unfold own
        rw [if_neg (by omega)]
      have o2 : own { h with cell := s.top } d = if (s.top == d) = true then 1 else 0 := by
        unfold own
        show (if s.top = d ∧ d ≠ 0 then 1 else 0) = _
        by_cases z : s.top = d
        · rw [if_pos ⟨z, by omega⟩, if_pos (by simp [z])]
        · rw [if_neg (fun q => z q.1), if_neg (by simp [z])]
      rw [List.count_cons] at q
      rw [o1, o2]
      show P2.count d + s.free.count d + _ = if 1 ≤ d ∧ d ≤ s.links.length then 1 else 0
      omega
    · show (P2.map (valAt s.vals)).reverse = (acts xs (decided ps (s.ends ++ [(i, h.at_)]))).2
      rw [acts_end, ed, ax]
    · have hp0 : pend h = false := by rw [pend_pop e]; exact decide_eq_false (by omega)
      have hp1 : pend { h with cell := s.top } = true := by rw [pend_pop (h := { h with cell := s.top }) e]; exact decide_eq_true c0
      refine ⟨k.prog, k.le, fun q => ?_, k.fresh, fun u hd q => absurd q c0, fun u hd q => ?_, k.seen, fun _ _ q => ?_, ?_, ?_⟩
      · rw [show h.deeds[h.at_]? = none from q] at e
        cases e
      · rw [show h.deeds[h.at_]? = some (.push u) from hd] at e
        cases e
      · rw [show h.seen = none from q] at hs
        cases hs
      · rw [hp1]
        show ownAns i (s.ends ++ [(i, h.at_)]) (acts xs (decided ps (s.ends ++ [(i, h.at_)]))).1 = h.said ++ [.int (valAt s.vals s.top)]
        rw [acts_end, ed, ax]
        show ownAns i (s.ends ++ [(i, h.at_)]) ((acts xs (decided ps s.ends)).1 ++ [_]) = _
        rw [ownAns_snoc (len_acts (xs := xs) (ps := ps) (s := s)), if_pos rfl, k.said, hp0]
        show h.said ++ [] ++ _ = _
        rw [List.append_nil]
      · rw [hp1]
        show ownEnds i (s.ends ++ [(i, h.at_)]) = List.range (h.at_ + 1)
        rw [ownEnds_snoc, if_pos rfl, k.own, hp0, List.range_succ]
        rfl
  | missPop t kk f e hs hc hm hf n =>
    refine I.put (h' := h.again) hi rfl ⟨k.prog, k.le, k.idle, fun _ => ⟨rfl, rfl⟩, fun _ _ _ => rfl, fun u hd q => absurd hc q, fun _ _ _ q => (by cases q), fun _ q => absurd hc q, k.said, k.own⟩
end
end Sk


namespace Sk
open PySem PySem.Spec PyProof.Rows L2
def down : Nat → List Nat
  | 0 => []
  | n + 1 => (n + 1) :: down n
theorem down_count (n c : Nat) : (down n).count c = if 1 ≤ c ∧ c ≤ n then 1 else 0 := by
  induction n with
  | zero =>
    show ([] : List Nat).count c = _
    rw [if_neg (by omega)]
    rfl
  | succ n ih =>
    show ((n + 1) :: down n).count c = _
    rw [List.count_cons, ih]
    by_cases q : n + 1 = c
    · have e : ((n + 1 == c) = true) := by simp [q]
      simp only [e, if_true]
      split <;> split <;> omega
    · have e : (n + 1 == c) = false := by simpa using q
      have e2 : (if (n + 1 == c) = true then 1 else 0) = 0 := by rw [e]; rfl
      rw [e2]
      split <;> split <;> omega
theorem down_chain (n : Nat) : ∀ m, m ≤ n → Chain (List.range n) m (down m)
  | 0, _ => rfl
  | m + 1, h => by
    refine ⟨rfl, by omega, ?_⟩
    have e : linkAt (List.range n) (m + 1) = m := by
      unfold linkAt
      simp [List.getD, List.getElem?_range (show m < n by omega)]
    rw [e]
    exact down_chain n m (by omega)
theorem down_vals : ∀ (xs : List Int) (m : Nat), m ≤ xs.length → ((down m).map (valAt xs)).reverse = xs.take m
  | xs, 0, _ => rfl
  | xs, m + 1, h => by
    have e : valAt xs (m + 1) = xs[m]'(by omega) := by
      unfold valAt
      simp [List.getD, List.getElem?_eq_getElem (show m < xs.length by omega)]
    show (((m + 1) :: down m).map (valAt xs)).reverse = _
    rw [List.map_cons, List.reverse_cons, down_vals xs m (by omega), e, List.take_succ_eq_append_getElem (by omega)]
theorem Inv.begun (xs : List Int) (ps : List (List Deed)) : Inv xs ps (Mach.begun xs ps) (down xs.length) := by
  have hh : ∀ (qs : List (List Deed)) (c : Nat), (held (qs.map Hand.new)).count c = 0 := by
    intro qs c
    induction qs with
    | nil => rfl
    | cons q qs ih =>
      rw [List.map_cons, held_cons, ih]
      unfold own
      rw [if_neg (by show ¬ (0 = c ∧ c ≠ 0); omega)]
  refine ⟨?_, ?_, fun c => ?_, ?_, ?_, fun e h => (by cases h), fun i h hi => ?_⟩
  · exact down_chain xs.length xs.length (Nat.le_refl _)
  · show xs.length = (List.range xs.length).length
    rw [List.length_range]
  · show (down xs.length).count c + ([] : List Nat).count c + (held (ps.map Hand.new)).count c = if 1 ≤ c ∧ c ≤ (List.range xs.length).length then 1 else 0
    rw [hh, down_count, List.length_range]
    rfl
  · show ((down xs.length).map (valAt xs)).reverse = xs
    rw [down_vals xs xs.length (Nat.le_refl _), List.take_length]
  · show (ps.map Hand.new).length = ps.length
    rw [List.length_map]
  · have hi2 : (ps.map Hand.new)[i]? = some h := hi
    rw [List.getElem?_map] at hi2
    cases e : ps[i]? with
    | none =>
      rw [e] at hi2
      cases hi2
    | some ds =>
      rw [e] at hi2
      have q : Hand.new ds = h := Option.some.inj hi2
      subst q
      have pn : pend (Hand.new ds) = false := by
        unfold pend
        split
        · exact decide_eq_false (by show ¬ (0 ≠ 0); omega)
        · rfl
      refine ⟨e, Nat.zero_le _, fun _ => rfl, fun _ => ⟨rfl, rfl⟩, fun _ _ _ => rfl, fun _ _ q => absurd rfl q, fun _ _ _ q => (by cases q), fun _ q => absurd rfl q, ?_, ?_⟩
      · rw [pn]
        rfl
      · rw [pn]
        rfl
section
variable {xs : List Int} {ps : List (List Deed)} {s : Mach} {P : List Nat} {i : Nat} {h : Hand} {r : Rule}
theorem turn_some (hi : s.hands[i]? = some h) : turn r s i = go r s i h := by
  unfold turn
  rw [hi]
theorem turn_none (hi : s.hands[i]? = none) : turn r s i = (.rests, s) := by
  unfold turn
  rw [hi]
theorem Go.mono {st : Stp} {s' : Mach} (G : Go r s i h st s') (ns : s'.stale = false) : s.stale = false := by
  cases G <;> first | exact ns | exact (Bool.or_eq_false_iff.mp ns).1
theorem turn_mono (ns : (turn r s i).2.stale = false) : s.stale = false := by
  cases hi : s.hands[i]? with
  | none =>
    rw [turn_none hi] at ns
    exact ns
  | some h =>
    rw [turn_some hi] at ns
    exact (go_kind r s i h).mono ns
theorem Inv.turn (I : Inv xs ps s P) (ns : (turn r s i).2.stale = false) : ∃ P', Inv xs ps (turn r s i).2 P' := by
  cases hi : s.hands[i]? with
  | none =>
    rw [turn_none hi]
    exact ⟨P, I⟩
  | some h =>
    rw [turn_some hi] at ns ⊢
    exact ⟨_, I.go hi (go_kind r s i h) ns⟩
theorem play_mono : ∀ {w : List Nat} {s : Mach}, (play r s w).2.stale = false → s.stale = false
  | [], _, h => h
  | i :: w, s, h => turn_mono (play_mono (w := w) h)
theorem Inv.play : ∀ {w : List Nat} {s : Mach} {P : List Nat}, Inv xs ps s P → (play r s w).2.stale = false → ∃ P', Inv xs ps (play r s w).2 P'
  | [], s, P, I, _ => ⟨P, I⟩
  | i :: w, s, P, I, ns => by
    obtain ⟨P1, I1⟩ := I.turn (r := r) (i := i) (play_mono (w := w) ns)
    exact Inv.play (w := w) (s := (Sk.turn r s i).2) I1 ns
/-! ### how many deeds are decided -/
theorem sum_add (f g : Nat → Nat) : ∀ n, ((List.range n).map fun i => f i + g i).sum = ((List.range n).map f).sum + ((List.range n).map g).sum
  | 0 => rfl
  | n + 1 => by
    rw [List.range_succ, List.map_append, List.map_append, List.map_append, List.sum_append, List.sum_append, List.sum_append, sum_add f g n]
    simp
    omega
theorem sum_one (a : Nat) : ∀ n, ((List.range n).map fun i => if a = i then 1 else 0).sum = if a < n then 1 else 0
  | 0 => rfl
  | n + 1 => by
    rw [List.range_succ, List.map_append, List.sum_append, sum_one a n]
    simp
    split <;> split <;> split <;> omega
theorem len_own {n : Nat} : ∀ {es : List (Nat × Nat)}, (∀ e ∈ es, e.1 < n) → es.length = ((List.range n).map fun i => (ownEnds i es).length).sum
  | [], _ => by
    have e : ∀ m, ((List.range m).map fun i => (ownEnds i []).length).sum = 0 := fun m => by
      induction m with
      | zero => rfl
      | succ m ih =>
        rw [List.range_succ, List.map_append, List.sum_append, ih]
        rfl
    rw [e]
    rfl
  | e :: es, h => by
    have ih := len_own (n := n) (es := es) fun x hx => h x (List.mem_cons_of_mem _ hx)
    have q : (fun i => (ownEnds i (e :: es)).length) = fun i => (ownEnds i es).length + (if e.1 = i then 1 else 0) := by
      funext i
      unfold ownEnds
      by_cases z : e.1 = i
      · simp [List.filter_cons, z]
      · simp [List.filter_cons, z]
    rw [q, sum_add, sum_one, if_pos (h e List.mem_cons_self), ← ih]
    rfl
theorem sum_le {f g : Nat → Nat} : ∀ {n : Nat}, (∀ i, i < n → f i ≤ g i) → ((List.range n).map f).sum ≤ ((List.range n).map g).sum
  | 0, _ => Nat.le_refl _
  | n + 1, h => by
    rw [List.range_succ, List.map_append, List.map_append, List.sum_append, List.sum_append]
    have := sum_le (n := n) fun i hi => h i (by omega)
    have := h n (by omega)
    simp
    omega
def total (ps : List (List Deed)) : Nat := (ps.map List.length).sum
theorem total_range (ps : List (List Deed)) : total ps = ((List.range ps.length).map fun i => (ps.getD i []).length).sum := by
  unfold total
  congr 1
  apply List.ext_getElem
  · simp
  · intro i h1 h2
    simp at h1 h2
    simp [List.getD, List.getElem?_eq_getElem h1]
theorem pend_le (k : HandOk xs ps s i h) : h.at_ + (if pend h = true then 1 else 0) ≤ h.deeds.length := by
  by_cases q : pend h = true
  · rw [if_pos q]
    unfold pend at q
    split at q
    · rename_i e
      have := (List.getElem?_eq_some_iff.mp e).1
      omega
    · cases q
  · rw [if_neg q]
    have := k.le
    omega
theorem Inv.ends_le (I : Inv xs ps s P) : s.ends.length ≤ total ps := by
  rw [len_own I.bound, total_range]
  refine sum_le fun i hi => ?_
  obtain ⟨h, hh⟩ : ∃ h, s.hands[i]? = some h := ⟨_, List.getElem?_eq_getElem (by rw [I.many]; exact hi)⟩
  have k := I.hand i h hh
  rw [k.own, List.length_range]
  have e : ps.getD i [] = h.deeds := by simp [List.getD, k.prog]
  rw [e]
  exact pend_le k
/-- while a hand's deed is open, fewer than all are decided -/
theorem Inv.ends_lt {d : Deed} (I : Inv xs ps s P) (hi : s.hands[i]? = some h) (hd : h.deeds[h.at_]? = some d) (np : pend h = false) : s.ends.length < total ps := by
  rw [len_own I.bound, total_range]
  have hl := lt_of_get hi
  rw [I.many] at hl
  have key : ∀ (f g : Nat → Nat) (n a : Nat), a < n → (∀ i, i < n → f i ≤ g i) → f a < g a → ((List.range n).map f).sum < ((List.range n).map g).sum := by
    intro f g n
    induction n with
    | zero =>
      intro a ha
      omega
    | succ n ih =>
      intro a ha hle hlt
      rw [List.range_succ, List.map_append, List.map_append, List.sum_append, List.sum_append]
      simp only [List.map_cons, List.map_nil, List.sum_cons, List.sum_nil]
      by_cases q : a = n
      · subst q
        have := sum_le (n := a) fun i hi => hle i (by omega)
        omega
      · have := ih a (by omega) (fun i hi => hle i (by omega)) hlt
        have := hle n (by omega)
        omega
  refine key _ _ _ i hl (fun j hj => ?_) ?_
  · obtain ⟨g, hg⟩ : ∃ g, s.hands[j]? = some g := ⟨_, List.getElem?_eq_getElem (by rw [I.many]; exact hj)⟩
    have k := I.hand j g hg
    rw [k.own, List.length_range]
    have e : ps.getD j [] = g.deeds := by simp [List.getD, k.prog]
    rw [e]
    exact pend_le k
  · have k := I.hand i h hi
    rw [k.own, List.length_range, np]
    have e : ps.getD i [] = h.deeds := by simp [List.getD, k.prog]
    rw [e]
    exact (List.getElem?_eq_some_iff.mp hd).1
end
end Sk


/-! By keeps, by marks of all hands and by a count more than the deeds no exchange is stale. -/
namespace Sk
open PySem PySem.Spec PyProof.Rows L2
section
variable {xs : List Int} {ps : List (List Deed)} {s : Mach} {P : List Nat} {i : Nat} {h : Hand} {r : Rule}
/-- some push has it -/
def PushHeld (s : Mach) (c : Nat) : Prop := ∃ (j : Nat) (g : Hand) (v : Int), s.hands[j]? = some g ∧ g.deeds[g.at_]? = some (.push v) ∧ g.cell = c
theorem Inv.topIn (I : Inv xs ps s P) (h0 : s.top ≠ 0) : s.top ∈ P := by
  have c := I.chain
  cases P with
  | nil => exact absurd c h0
  | cons d P => exact c.1 ▸ List.mem_cons_self
theorem Inv.topFree (I : Inv xs ps s P) (h0 : s.top ≠ 0) : 1 ≤ s.top ∧ s.top ≤ s.links.length ∧ ¬ PushHeld s s.top ∧ s.top ∉ s.free := by
  obtain ⟨a, b, c, d⟩ := I.pileIn (I.topIn h0)
  refine ⟨b, c, ?_, a⟩
  rintro ⟨j, g, v, hj, _, e⟩
  exact I.cellNot d h0 hj e
theorem held_set_cases {h' : Hand} {t : Nat} (hi : s.hands[i]? = some h) {s' : Mach} (eh : s'.hands = s.hands.set i h') (np : ¬ PushHeld s t) (own : ∀ v, h'.deeds[h'.at_]? = some (.push v) → h'.cell ≠ t) : ¬ PushHeld s' t := by
  rintro ⟨j, g, v, hj, hd, hc⟩
  rw [eh] at hj
  rcases get_set_cases (lt_of_get hi) hj with ⟨rfl, rfl⟩ | ⟨n, hj⟩
  · exact own v hd hc
  · exact np ⟨j, g, v, hj, hd, hc⟩
/-- a cell that no push has, and that is not taken, stays as it is -/
theorem Go.fix {st : Stp} {s' : Mach} {t : Nat} (I : Inv xs ps s P) (hi : s.hands[i]? = some h) (G : Go r s i h st s') (t1 : 1 ≤ t) (tn : t ≤ s.links.length) (np : ¬ PushHeld s t) (nt : ∀ c, st = .takes c → c ≠ t) :
    t ≤ s'.links.length ∧ ¬ PushHeld s' t ∧ linkAt s'.links t = linkAt s.links t := by
  have base : ∀ v, h.deeds[h.at_]? = some (.push v) → h.cell ≠ t := fun v hd q => np ⟨i, h, v, hi, hd, q⟩
  have did : ∀ a v, (h.did a).deeds[(h.did a).at_]? = some (.push v) → (h.did a).cell ≠ t := fun a v _ q => by
    have q2 : 0 = t := q
    omega
  cases G with
  | rests e => exact ⟨tn, np, rfl⟩
  | takesNew v e hc hp =>
    refine ⟨by show t ≤ (s.links ++ [0]).length; rw [List.length_append]; omega, held_set_cases hi (h' := { h with cell := s.vals.length + 1 }) rfl np fun u hd q => ?_, linkAt_append t1 tn⟩
    exact nt _ rfl q
  | takesFree v c e hc hp => exact ⟨tn, held_set_cases hi (h' := { h with cell := c }) rfl np fun u hd q => nt _ rfl q, rfl⟩
  | readsPush v e hc hs => exact ⟨tn, held_set_cases hi (h' := { h with seen := some (s.top, s.count) }) rfl np base, rfl⟩
  | links v t2 kk e hc hs hf =>
    exact ⟨by show t ≤ (s.links.set (h.cell - 1) t2).length; rw [List.length_set]; exact tn, held_set_cases hi (h' := { h with follow := some t2 }) rfl np base, linkAt_set (by omega) t1 (base v e)⟩
  | pushes v f e hc hs hf => exact ⟨tn, held_set_cases hi (h' := h.did (.str "done")) rfl np (did _), rfl⟩
  | missPush v t2 kk f e hc hs hf n => exact ⟨tn, held_set_cases hi (h' := h.again) rfl np base, rfl⟩
  | meets e hs ht => exact ⟨tn, held_set_cases hi (h' := h.did .non) rfl np (did _), rfl⟩
  | readsPop e hs ht => exact ⟨tn, held_set_cases hi (h' := { h with seen := some (s.top, s.count) }) rfl np base, rfl⟩
  | lets t2 kk e hs hc => exact ⟨tn, held_set_cases hi (h' := h.did (.int (valAt s.vals h.cell))) rfl np (did _), rfl⟩
  | marks t2 kk e hs hc hm hl hk => exact ⟨tn, held_set_cases hi (h' := { h with mark := t2 }) rfl np base, rfl⟩
  | looks t2 kk e hs hc hm hl hk ht => exact ⟨tn, held_set_cases hi (h' := { h with looked := true }) rfl np base, rfl⟩
  | looksNot t2 kk e hs hc hm hl hk ht => exact ⟨tn, held_set_cases hi (h' := h.again) rfl np base, rfl⟩
  | follows t2 kk e hs hc hm hf => exact ⟨tn, held_set_cases hi (h' := { h with follow := some (linkAt s.links t2) }) rfl np base, rfl⟩
  | pops f e hs hc hm hf =>
    refine ⟨tn, held_set_cases hi (h' := { h with cell := s.top }) rfl np fun u hd => ?_, rfl⟩
    have q := e.symm.trans (show h.deeds[h.at_]? = some (.push u) from hd)
    cases q
  | missPop t2 kk f e hs hc hm hf n => exact ⟨tn, held_set_cases hi (h' := h.again) rfl np base, rfl⟩
/-- what a hand that pops has read still is as it was, if the rule lets it go on -/
def Fast (s : Mach) (h : Hand) (t : Nat) : Prop := t ≤ s.links.length ∧ ¬ PushHeld s t ∧ ∀ f, h.follow = some f → linkAt s.links t = f
def Guard (r : Rule) (s : Mach) (h : Hand) (t k : Nat) : Prop := match r with
  | .keeps => Fast s h t
  | .marks _ => (h.follow ≠ none → h.looked = true) ∧ (h.looked = true → h.mark = t ∧ Fast s h t)
  | .counts _ => k ≤ s.count ∧ (k = s.count → t = s.top ∧ Fast s h t)
structure Safe (r : Rule) (s : Mach) : Prop where
  all : ∀ (i : Nat) (h : Hand), s.hands[i]? = some h → h.deeds[h.at_]? = some .pop → h.cell = 0 → ∀ t k, h.seen = some (t, k) → Guard r s h t k
  low : ∀ m, r = .counts m → s.count ≤ s.ends.length
def Good (r : Rule) (ps : List (List Deed)) : Prop := match r with
  | .keeps => True
  | .marks hs => ∀ i, i < ps.length → i ∈ hs
  | .counts m => total ps < m
theorem bump_low (m : Nat) (g : Good (.counts m) ps) {e n : Nat} (h : n ≤ e) (l : e < total ps) : bump (.counts m) n = n + 1 := by
  have : total ps < m := g
  unfold bump
  exact Nat.mod_eq_of_lt (by omega)
/-- the count and the top of a step that exchanges nothing -/
theorem Go.top {st : Stp} {s' : Mach} (G : Go r s i h st s') : (s'.top = s.top ∧ s'.count = s.count ∧ s.ends.length ≤ s'.ends.length) ∨ (s'.count = bump r s.count ∧ s'.ends.length = s.ends.length + 1 ∧ pend h = false ∧ ∃ d, h.deeds[h.at_]? = some d) := by
  cases G with
  | pushes v f e hc hs hf => exact .inr ⟨rfl, by simp, pend_push e, _, e⟩
  | pops f e hs hc hm hf => exact .inr ⟨rfl, by simp, by rw [pend_pop e]; exact decide_eq_false (by omega), _, e⟩
  | meets e hs ht => exact .inl ⟨rfl, rfl, by simp⟩
  | _ => exact .inl ⟨rfl, rfl, Nat.le_refl _⟩
theorem Guard.other {st : Stp} {s' : Mach} {j : Nat} {g : Hand} {t k : Nat} (gd : Good r ps) (I : Inv xs ps s P) (S : Safe r s) (hi : s.hands[i]? = some h) (G : Go r s i h st s') (hj : s.hands[j]? = some g) (q : Guard r s g t k) (t0 : t ≠ 0) : Guard r s' g t k := by
  have fix : Fast s g t → (∀ c, st = .takes c → c ≠ t) → Fast s' g t := fun F nt => by
    obtain ⟨a, b, c⟩ := G.fix I hi (t := t) (by omega) F.1 F.2.1 nt
    exact ⟨a, b, fun f hf => c.trans (F.2.2 f hf)⟩
  have newT : t ≤ s.links.length → s.vals.length + 1 ≠ t := fun l => by
    rw [I.len]
    omega
  cases r with
  | keeps =>
    refine fix q fun c e => ?_
    subst e
    cases G with
    | takesNew v e hc hp => exact newT q.1
    | takesFree v c e hc hp => cases hp
  | marks hs =>
    refine ⟨q.1, fun hl => ?_⟩
    obtain ⟨qm, F⟩ := q.2 hl
    refine ⟨qm, fix F fun c e => ?_⟩
    subst e
    cases G with
    | takesNew v e hc hp => exact newT F.1
    | takesFree v c e hc hp => exact fun z => pick_marks hp g (List.mem_of_getElem? hj) (qm.trans z.symm)
  | counts m =>
    obtain ⟨q1, q2⟩ := q
    rcases G.top with ⟨e1, e2, _⟩ | ⟨e1, e2, np, d, hd⟩
    · refine ⟨by omega, fun z => ?_⟩
      obtain ⟨et, F⟩ := q2 (by omega)
      refine ⟨by omega, fix F fun c e => ?_⟩
      subst e
      cases G with
      | takesNew v e hc hp => exact newT F.1
      | takesFree v c e hc hp =>
        intro z
        have := (I.topFree (by omega)).2.2.2
        rw [← et, ← z] at this
        exact this (pick_mem hp)
    · have lo := S.low m rfl
      have lt := I.ends_lt hi hd np
      rw [bump_low m gd lo lt] at e1
      exact ⟨by omega, fun z => by omega⟩
theorem Fast.of_top (I : Inv xs ps s P) (h0 : s.top ≠ 0) {g : Hand} (hf : g.follow = none) : Fast s g s.top := by
  obtain ⟨a, b, c, d⟩ := I.topFree h0
  exact ⟨b, c, fun f z => by rw [hf] at z; cases z⟩
theorem Fast.hand {s' : Mach} {h' : Hand} {t : Nat} (F : Fast s h t) (hi : s.hands[i]? = some h) (eh : s'.hands = s.hands.set i h') (el : s'.links = s.links) (ed : h'.deeds = h.deeds) (ea : h'.at_ = h.at_) (e : h.deeds[h.at_]? = some .pop)
    (ef : ∀ f, h'.follow = some f → linkAt s.links t = f) : Fast s' h' t := by
  refine ⟨by rw [el]; exact F.1, held_set_cases hi eh F.2.1 fun v hd => ?_, fun f hf => by rw [el]; exact ef f hf⟩
  rw [ed, ea, e] at hd
  cases hd
theorem Safe.go {st : Stp} {s' : Mach} (gd : Good r ps) (I : Inv xs ps s P) (S : Safe r s) (n0 : s.stale = false) (hi : s.hands[i]? = some h) (G : Go r s i h st s') : s'.stale = false ∧ Safe r s' := by
  have k := I.hand i h hi
  have hl := lt_of_get hi
  have stale : s'.stale = false := by
    cases G with
    | pops f e hs hc hm hf =>
      have t0 := k.seen e _ _ hs
      have q := S.all i h hi e hc _ _ hs
      have ef : linkAt s.links s.top = f := by
        cases r with
        | keeps => exact q.2.2 f hf
        | marks hs => exact (q.2 (q.1 (by rw [hf]; simp))).2.2.2 f hf
        | counts m => exact (q.2 rfl).2.2.2 f hf
      show (s.stale || (linkAt s.links s.top != f)) = false
      rw [n0, ef]
      simp
    | _ => exact n0
  refine ⟨stale, ⟨?_, ?_⟩⟩
  · -- the hands
    have oth : ∀ h' : Hand, s'.hands = s.hands.set i h' → (h'.deeds[h'.at_]? = some .pop → h'.cell = 0 → ∀ t k, h'.seen = some (t, k) → Guard r s' h' t k) →
        ∀ (j : Nat) (g : Hand), s'.hands[j]? = some g → g.deeds[g.at_]? = some .pop → g.cell = 0 → ∀ t k, g.seen = some (t, k) → Guard r s' g t k := by
      intro h' eh own j g hj hd hc t kk hs
      rw [eh] at hj
      rcases get_set_cases hl hj with ⟨rfl, rfl⟩ | ⟨n, hj⟩
      · exact own hd hc t kk hs
      · exact Guard.other gd I S hi G hj (S.all j g hj hd hc t kk hs) ((I.hand j g hj).seen hd t kk hs)
    have noPush : ∀ {v : Int} {Q : Prop}, h.deeds[h.at_]? = some (.push v) → h.deeds[h.at_]? = some .pop → Q := fun a b => by
      have := a.symm.trans b
      cases this
    cases G with
    | rests e => exact S.all
    | takesNew v e hc hp => exact oth { h with cell := s.vals.length + 1 } rfl fun q => noPush e q
    | takesFree v c e hc hp => exact oth { h with cell := c } rfl fun q => noPush e q
    | readsPush v e hc hs => exact oth { h with seen := some (s.top, s.count) } rfl fun q => noPush e q
    | links v t kk e hc hs hf => exact oth { h with follow := some t } rfl fun q => noPush e q
    | pushes v f e hc hs hf => exact oth (h.did (.str "done")) rfl fun _ _ t kk z => by cases z
    | missPush v t kk f e hc hs hf n => exact oth h.again rfl fun _ _ t kk z => by cases z
    | meets e hs ht => exact oth (h.did .non) rfl fun _ _ t kk z => by cases z
    | lets t kk e hs hc => exact oth (h.did (.int (valAt s.vals h.cell))) rfl fun _ _ t kk z => by cases z
    | looksNot t kk e hs hc hm hl hk ht => exact oth h.again rfl fun _ _ t kk z => by cases z
    | missPop t kk f e hs hc hm hf n => exact oth h.again rfl fun _ _ t kk z => by cases z
    | pops f e hs hc hm hf => exact oth { h with cell := s.top } rfl fun _ z => absurd z (k.seen e _ _ hs)
    | readsPop e hs ht =>
      obtain ⟨nf, nl⟩ := k.fresh hs
      refine oth { h with seen := some (s.top, s.count) } rfl fun _ hc t kk z => ?_
      have z2 : (s.top, s.count) = (t, kk) := Option.some.inj z
      injection z2 with z3 z4
      subst z3 z4
      have F : Fast (s.put i { h with seen := some (s.top, s.count) }) { h with seen := some (s.top, s.count) } s.top := (Fast.of_top I ht (g := h) nf).hand hi rfl rfl rfl rfl e fun f hf => by
        rw [show h.follow = some f from hf] at nf
        cases nf
      cases r with
      | keeps => exact F
      | marks hs2 => exact ⟨fun w => absurd nf w, fun w => by rw [show h.looked = true from w] at nl; cases nl⟩
      | counts m => exact ⟨Nat.le_refl _, fun _ => ⟨rfl, F⟩⟩
    | marks t kk e hs hc hm hl2 hk =>
      refine oth { h with mark := t } rfl fun _ _ t2 k2 z => ?_
      have q := S.all i h hi e hc t2 k2 z
      cases r with
      | keeps => cases hm
      | counts m => cases hm
      | marks hs2 => exact ⟨q.1, fun w => by rw [show h.looked = true from w] at hl2; cases hl2⟩
    | looks t kk e hs hc hm hl2 hk ht =>
      refine oth { h with looked := true } rfl fun _ _ t2 k2 z => ?_
      have q := S.all i h hi e hc t2 k2 z
      have z2 : (t, kk) = (t2, k2) := Option.some.inj (hs.symm.trans z)
      injection z2 with z3 z4
      subst z3 z4
      cases r with
      | keeps => cases hm
      | counts m => cases hm
      | marks hs2 =>
        have nf : h.follow = none := Classical.byContradiction fun w => by
          rw [q.1 w] at hl2
          cases hl2
        refine ⟨fun _ => rfl, fun _ => ⟨hk, ?_⟩⟩
        have t0 := k.seen e _ _ hs
        rw [← ht]
        exact (Fast.of_top I (by rw [ht]; exact t0) (g := h) nf).hand hi rfl rfl rfl rfl e fun f hf => by
          rw [show h.follow = some f from hf] at nf
          cases nf
    | follows t kk e hs hc hm hf =>
      refine oth { h with follow := some (linkAt s.links t) } rfl fun _ _ t2 k2 z => ?_
      have q := S.all i h hi e hc t2 k2 z
      have z2 : (t, kk) = (t2, k2) := Option.some.inj (hs.symm.trans z)
      injection z2 with z3 z4
      subst z3 z4
      have up : Fast s h t → Fast (s.put i { h with follow := some (linkAt s.links t) }) { h with follow := some (linkAt s.links t) } t := fun F => F.hand hi rfl rfl rfl rfl e fun f hf => Option.some.inj hf
      cases r with
      | keeps => exact up q
      | marks hs2 =>
        have lk : h.looked = true := hm (by
          show hs2.contains i = true
          have := gd i (by rw [← I.many]; exact hl)
          simpa using this)
        exact ⟨fun _ => lk, fun _ => ⟨(q.2 lk).1, up (q.2 lk).2⟩⟩
      | counts m => exact ⟨q.1, fun w => ⟨(q.2 w).1, up (q.2 w).2⟩⟩
  · intro m e
    subst e
    have lo := S.low m rfl
    rcases G.top with ⟨_, e2, e3⟩ | ⟨e1, e2, np, d, hd⟩
    · omega
    · rw [e1, bump_low m gd lo (I.ends_lt hi hd np)]
      omega
end
end Sk


/-! All deeds come to an end, by every rule, stale or not. -/
namespace Sk
open PySem PySem.Spec PyProof.Rows L2
def costD : Deed → Nat
  | .push _ => 4
  | .pop => 6
def costs (ds : List Deed) : Nat := (ds.map costD).sum
/-- own steps of a pop that follows and exchanges -/
def rankF (top count : Nat) (h : Hand) (t k : Nat) : Nat := if top = t ∧ count = k then (if h.follow = none then 3 else 2) else (if h.follow = none then 8 else 7)
/-- own steps of the deed that is open, if no other hand exchanges -/
def rank (r : Rule) (top count i : Nat) (h : Hand) : Nat := match h.deeds[h.at_]? with
  | none => 0
  | some (.push _) => (if h.cell = 0 then 1 else 0) + (match h.seen with
    | none => 3
    | some (t, k) => if top = t ∧ count = k then (if h.follow = none then 2 else 1) else (if h.follow = none then 5 else 4))
  | some .pop => (match h.seen with
    | none => if top = 0 then 1 else 6
    | some (t, k) => if h.cell ≠ 0 then 1 else if mustMark r i = true ∧ h.looked = false then (if h.mark ≠ t then 1 else 0) + 1 + (if top = t then rankF top count h t k else 6) else rankF top count h t k)
/-- deeds that are not decided -/
def left (h : Hand) : Nat := h.deeds.length - (h.at_ + (if pend h = true then 1 else 0))
def psi1 (r : Rule) (n top count i : Nat) (h : Hand) : Nat := rank r top count i h + costs (h.deeds.drop (h.at_ + 1)) + 5 * n * left h
def psi (r : Rule) (n top count : Nat) : Nat → List Hand → Nat
  | _, [] => 0
  | i, h :: hs => psi1 r n top count i h + psi r n top count (i + 1) hs
def Mach.toDo (r : Rule) (s : Mach) : Nat := psi r s.hands.length s.top s.count 0 s.hands
section
variable {s : Mach} {i : Nat} {h : Hand} {r : Rule}
theorem psi_set {n top count : Nat} {h h' : Hand} : ∀ {hs : List Hand} {j k : Nat}, hs[j]? = some h → psi r n top count k (hs.set j h') + psi1 r n top count (k + j) h = psi r n top count k hs + psi1 r n top count (k + j) h'
  | [], j, k, e => by simp at e
  | g :: hs, 0, k, e => by
    simp at e
    subst e
    show psi1 r n top count k h' + psi r n top count (k + 1) hs + psi1 r n top count (k + 0) g = psi1 r n top count k g + psi r n top count (k + 1) hs + psi1 r n top count (k + 0) h'
    simp
    omega
  | g :: hs, j + 1, k, e => by
    have ih := psi_set (n := n) (top := top) (count := count) (h := h) (h' := h') (hs := hs) (j := j) (k := k + 1) (by simpa using e)
    show psi1 r n top count k g + psi r n top count (k + 1) (hs.set j h') + psi1 r n top count (k + (j + 1)) h = psi1 r n top count k g + psi r n top count (k + 1) hs + psi1 r n top count (k + (j + 1)) h'
    rw [show k + (j + 1) = k + 1 + j by omega]
    omega
theorem rankF_rise (top count top' count' : Nat) (h : Hand) (t k : Nat) : rankF top' count' h t k ≤ rankF top count h t k + 5 := by
  unfold rankF
  repeat' split
  all_goals omega
theorem rankF_le (top count : Nat) (h : Hand) (t k : Nat) : rankF top count h t k ≤ 8 ∧ 2 ≤ rankF top count h t k := by
  unfold rankF
  repeat' split
  all_goals omega
theorem rank_rise (top count top' count' : Nat) : rank r top' count' i h ≤ rank r top count i h + 5 := by
  unfold rank
  cases h.deeds[h.at_]? with
  | none => exact Nat.zero_le _
  | some d =>
    cases d with
    | push v =>
      dsimp only
      cases h.seen with
      | none => dsimp only; omega
      | some q =>
        obtain ⟨t, k⟩ := q
        dsimp only
        repeat' split
        all_goals omega
    | pop =>
      dsimp only
      cases h.seen with
      | none =>
        dsimp only
        repeat' split
        all_goals omega
      | some q =>
        obtain ⟨t, k⟩ := q
        dsimp only
        have a := rankF_rise top count top' count' h t k
        have b := rankF_le top count h t k
        have c := rankF_le top' count' h t k
        split
        · omega
        · split
          · repeat' split
            all_goals omega
          · omega
theorem psi_rise {n top count top' count' : Nat} : ∀ {hs : List Hand} {k : Nat}, psi r n top' count' k hs ≤ psi r n top count k hs + 5 * hs.length
  | [], _ => Nat.zero_le _
  | h :: hs, k => by
    have ih := psi_rise (n := n) (top := top) (count := count) (top' := top') (count' := count') (hs := hs) (k := k + 1)
    have q := rank_rise (r := r) (i := k) (h := h) top count top' count'
    show psi1 r n top' count' k h + psi r n top' count' (k + 1) hs ≤ psi1 r n top count k h + psi r n top count (k + 1) hs + 5 * (hs.length + 1)
    unfold psi1
    omega
/-- what holds in each state -/
structure Base (s : Mach) : Prop where
  free : ∀ c ∈ s.free, c ≠ 0
  seen : ∀ (i : Nat) (h : Hand), s.hands[i]? = some h → h.deeds[h.at_]? = some .pop → ∀ t k, h.seen = some (t, k) → t ≠ 0
  dim : ∀ (i : Nat) (h : Hand), s.hands[i]? = some h → h.seen = none → h.looked = false ∧ h.follow = none
theorem Base.mk2 {s' : Mach} {h' : Hand} (B : Base s) (hi : s.hands[i]? = some h) (eh : s'.hands = s.hands.set i h') (ef : ∀ c ∈ s'.free, c ≠ 0) (es : h'.deeds[h'.at_]? = some .pop → ∀ t k, h'.seen = some (t, k) → t ≠ 0) (ed : h'.seen = none → h'.looked = false ∧ h'.follow = none) : Base s' := by
  refine ⟨ef, fun j g hj => ?_, fun j g hj => ?_⟩
  · rw [eh] at hj
    rcases get_set_cases (lt_of_get hi) hj with ⟨rfl, rfl⟩ | ⟨n, hj⟩
    · exact es
    · exact B.seen j g hj
  · rw [eh] at hj
    rcases get_set_cases (lt_of_get hi) hj with ⟨rfl, rfl⟩ | ⟨n, hj⟩
    · exact ed
    · exact B.dim j g hj
theorem Base.go {st : Stp} {s' : Mach} (B : Base s) (hi : s.hands[i]? = some h) (G : Go r s i h st s') : Base s' := by
  have bs := B.seen i h hi
  have bd := B.dim i h hi
  cases G with
  | rests e => exact B
  | takesNew v e hc hp => exact B.mk2 (h' := { h with cell := s.vals.length + 1 }) hi rfl B.free bs bd
  | takesFree v c e hc hp => exact B.mk2 (h' := { h with cell := c }) hi rfl (fun d hd => B.free d (List.mem_of_mem_erase hd)) bs bd
  | readsPush v e hc hs => exact B.mk2 (h' := { h with seen := some (s.top, s.count) }) hi rfl B.free (fun q => by rw [show h.deeds[h.at_]? = some .pop from q] at e; cases e) (fun q => by cases q)
  | links v t k e hc hs hf => exact B.mk2 (h' := { h with follow := some t }) hi rfl B.free bs (fun q => by rw [show h.seen = none from q] at hs; cases hs)
  | pushes v f e hc hs hf => exact B.mk2 (h' := h.did (.str "done")) hi rfl B.free (fun _ t k q => by cases q) (fun _ => ⟨rfl, rfl⟩)
  | missPush v t k f e hc hs hf n => exact B.mk2 (h' := h.again) hi rfl B.free (fun _ t k q => by cases q) (fun _ => ⟨rfl, rfl⟩)
  | meets e hs ht => exact B.mk2 (h' := h.did .non) hi rfl B.free (fun _ t k q => by cases q) (fun _ => ⟨rfl, rfl⟩)
  | readsPop e hs ht =>
    refine B.mk2 (h' := { h with seen := some (s.top, s.count) }) hi rfl B.free (fun _ t k q => ?_) (fun q => by cases q)
    have q2 : (s.top, s.count) = (t, k) := Option.some.inj q
    injection q2 with q3 _
    omega
  | lets t k e hs hc =>
    refine B.mk2 (h' := h.did (.int (valAt s.vals h.cell))) hi rfl (fun d hd => ?_) (fun _ t k q => by cases q) (fun _ => ⟨rfl, rfl⟩)
    rcases List.mem_append.mp hd with hd | hd
    · exact B.free d hd
    · rw [List.mem_singleton.mp hd]
      exact hc
  | marks t k e hs hc hm hl hk => exact B.mk2 (h' := { h with mark := t }) hi rfl B.free bs bd
  | looks t k e hs hc hm hl hk ht => exact B.mk2 (h' := { h with looked := true }) hi rfl B.free bs (fun q => by rw [show h.seen = none from q] at hs; cases hs)
  | looksNot t k e hs hc hm hl hk ht => exact B.mk2 (h' := h.again) hi rfl B.free (fun _ t k q => by cases q) (fun _ => ⟨rfl, rfl⟩)
  | follows t k e hs hc hm hf => exact B.mk2 (h' := { h with follow := some (linkAt s.links t) }) hi rfl B.free bs (fun q => by rw [show h.seen = none from q] at hs; cases hs)
  | pops f e hs hc hm hf => exact B.mk2 (h' := { h with cell := s.top }) hi rfl B.free bs bd
  | missPop t k f e hs hc hm hf n => exact B.mk2 (h' := h.again) hi rfl B.free (fun _ t k q => by cases q) (fun _ => ⟨rfl, rfl⟩)
theorem Base.turn (B : Base s) : Base (turn r s i).2 := by
  cases hi : s.hands[i]? with
  | none =>
    rw [turn_none hi]
    exact B
  | some h =>
    rw [turn_some hi]
    exact B.go hi (go_kind r s i h)
theorem Base.play : ∀ {w : List Nat} {s : Mach}, Base s → Base (play r s w).2
  | [], _, B => B
  | _ :: w, _, B => Base.play (w := w) B.turn
theorem Base.begun (xs : List Int) (ps : List (List Deed)) : Base (Mach.begun xs ps) := by
  have key : ∀ (i : Nat) (h : Hand), (ps.map Hand.new)[i]? = some h → h.seen = none ∧ h.looked = false ∧ h.follow = none := by
    intro i h hi
    obtain ⟨ds, _, rfl⟩ := List.mem_map.mp (List.mem_of_getElem? hi)
    exact ⟨rfl, rfl, rfl⟩
  refine ⟨fun c h => (by cases h), fun i h hi _ t k q => ?_, fun i h hi _ => (key i h hi).2⟩
  rw [(key i h hi).1] at q
  cases q
/-! ### each step of a hand that has not done all brings the end nearer -/
theorem rank_new (top count j : Nat) (h : Hand) (a : V) : rank r top count j (h.did a) + costs ((h.did a).deeds.drop ((h.did a).at_ + 1)) ≤ costs (h.deeds.drop (h.at_ + 1)) := by
  show rank r top count j (h.did a) + costs (h.deeds.drop (h.at_ + 1 + 1)) ≤ _
  cases e : h.deeds[h.at_ + 1]? with
  | none =>
    have e2 : (h.did a).deeds[(h.did a).at_]? = none := e
    unfold rank
    rw [e2]
    have : h.deeds.length ≤ h.at_ + 1 := List.getElem?_eq_none_iff.mp e
    rw [List.drop_eq_nil_of_le this, List.drop_eq_nil_of_le (by omega)]
    exact Nat.zero_le _
  | some d =>
    have e2 : (h.did a).deeds[(h.did a).at_]? = some d := e
    have hl := (List.getElem?_eq_some_iff.mp e).1
    have ed : h.deeds[h.at_ + 1] = d := (List.getElem?_eq_some_iff.mp e).2
    rw [List.drop_eq_getElem_cons hl, ed]
    unfold costs
    rw [List.map_cons, List.sum_cons]
    unfold rank
    rw [e2]
    cases d with
    | push v =>
      show (if (0 : Nat) = 0 then 1 else 0) + 3 + _ ≤ 4 + _
      simp
    | pop =>
      show (if top = 0 then 1 else 6) + _ ≤ 6 + _
      split <;> omega
theorem left_did (a : V) {d : Deed} (hd : h.deeds[h.at_]? = some d) (np : pend h = false) : left (h.did a) + 1 = left h := by
  have hl := (List.getElem?_eq_some_iff.mp hd).1
  unfold left
  rw [pend_did, np]
  show h.deeds.length - (h.at_ + 1 + (if false = true then 1 else 0)) + 1 = h.deeds.length - (h.at_ + (if false = true then 1 else 0))
  simp
  omega
theorem left_lets (a : V) (hp : pend h = true) : left (h.did a) = left h := by
  unfold left
  rw [pend_did, hp]
  show h.deeds.length - (h.at_ + 1 + (if false = true then 1 else 0)) = h.deeds.length - (h.at_ + (if true = true then 1 else 0))
  simp
/-- a hand's own part of what is to do gets less, top and count unchanged -/
theorem less_own {s' : Mach} {h' : Hand} (hi : s.hands[i]? = some h) (eh : s'.hands = s.hands.set i h') (et : s'.top = s.top) (ec : s'.count = s.count)
    (lt : psi1 r s.hands.length s.top s.count i h' < psi1 r s.hands.length s.top s.count i h) : s'.toDo r < s.toDo r := by
  have e := psi_set (r := r) (n := s.hands.length) (top := s.top) (count := s.count) (h := h) (h' := h') (hs := s.hands) (j := i) (k := 0) hi
  unfold Mach.toDo
  rw [eh, List.length_set, et, ec]
  rw [Nat.zero_add] at e
  omega
theorem less_ex {s' : Mach} {h' : Hand} (hi : s.hands[i]? = some h) (eh : s'.hands = s.hands.set i h')
    (lt : psi1 r s.hands.length s.top s.count i h' + 5 * s.hands.length < psi1 r s.hands.length s.top s.count i h) : s'.toDo r < s.toDo r := by
  have e := psi_set (r := r) (n := s.hands.length) (top := s.top) (count := s.count) (h := h) (h' := h') (hs := s.hands) (j := i) (k := 0) hi
  have q := psi_rise (r := r) (n := s.hands.length) (top := s.top) (count := s.count) (top' := s'.top) (count' := s'.count) (hs := s.hands.set i h') (k := 0)
  unfold Mach.toDo
  rw [eh, List.length_set]
  rw [Nat.zero_add] at e
  rw [List.length_set] at q
  omega
theorem rank_push {top count : Nat} {h : Hand} {v : Int} (e : h.deeds[h.at_]? = some (.push v)) : rank r top count i h = (if h.cell = 0 then 1 else 0) + (match h.seen with
    | none => 3
    | some (t, k) => if top = t ∧ count = k then (if h.follow = none then 2 else 1) else (if h.follow = none then 5 else 4)) := by
  unfold rank
  rw [e]
theorem rank_pop0 {top count : Nat} {h : Hand} (e : h.deeds[h.at_]? = some .pop) (hs : h.seen = none) : rank r top count i h = if top = 0 then 1 else 6 := by
  unfold rank
  rw [e]
  dsimp only
  rw [hs]
theorem rank_pop {top count t k : Nat} {h : Hand} (e : h.deeds[h.at_]? = some .pop) (hs : h.seen = some (t, k)) : rank r top count i h = if h.cell ≠ 0 then 1 else if mustMark r i = true ∧ h.looked = false then (if h.mark ≠ t then 1 else 0) + 1 + (if top = t then rankF top count h t k else 6) else rankF top count h t k := by
  unfold rank
  rw [e]
  dsimp only
  rw [hs]
/-- the same deed, the same cell -/
theorem less_same {s' : Mach} {h' : Hand} (hi : s.hands[i]? = some h) (eh : s'.hands = s.hands.set i h') (et : s'.top = s.top) (ec : s'.count = s.count) (ed : h'.deeds = h.deeds) (ea : h'.at_ = h.at_) (ep : pend h' = pend h)
    (lt : rank r s.top s.count i h' < rank r s.top s.count i h) : s'.toDo r < s.toDo r := by
  refine less_own hi eh et ec ?_
  unfold psi1 left
  rw [ed, ea, ep]
  omega
theorem Go.less {st : Stp} {s' : Mach} (B : Base s) (hi : s.hands[i]? = some h) (G : Go r s i h st s') (op : h.deeds[h.at_]? ≠ none) : s'.toDo r < s.toDo r := by
  have bd := B.dim i h hi
  have bs := B.seen i h hi
  cases G with
  | rests e => exact absurd e op
  | takesNew v e hc hp =>
    refine less_same (h' := { h with cell := s.vals.length + 1 }) hi rfl rfl rfl rfl rfl ((pend_push (h := { h with cell := s.vals.length + 1 }) e).trans (pend_push e).symm) ?_
    rw [rank_push (h := { h with cell := s.vals.length + 1 }) e, rank_push e, if_pos hc, if_neg (by show ¬ (s.vals.length + 1 = 0); omega)]
    exact Nat.add_lt_add_right Nat.zero_lt_one _
  | takesFree v c e hc hp =>
    have c0 := B.free c (pick_mem hp)
    refine less_same (h' := { h with cell := c }) hi rfl rfl rfl rfl rfl ((pend_push (h := { h with cell := c }) e).trans (pend_push e).symm) ?_
    rw [rank_push (h := { h with cell := c }) e, rank_push e, if_pos hc, if_neg (show ¬ (c = 0) from c0)]
    exact Nat.add_lt_add_right Nat.zero_lt_one _
  | readsPush v e hc hs =>
    have nf := (bd hs).2
    refine less_same (h' := { h with seen := some (s.top, s.count) }) hi rfl rfl rfl rfl rfl rfl ?_
    rw [rank_push (h := { h with seen := some (s.top, s.count) }) e, rank_push e, if_neg hc, hs]
    show 0 + (if s.top = s.top ∧ s.count = s.count then (if h.follow = none then 2 else 1) else _) < 0 + 3
    rw [if_pos ⟨rfl, rfl⟩, if_pos nf]
    omega
  | links v t k e hc hs hf =>
    refine less_same (h' := { h with follow := some t }) hi rfl rfl rfl rfl rfl rfl ?_
    rw [rank_push (h := { h with follow := some t }) e, rank_push e, if_neg hc, hs]
    dsimp only
    rw [if_neg (show ¬ (some t = none) by simp), if_neg (show ¬ (some t = none) by simp), hf]
    split <;> simp
  | pushes v f e hc hs hf =>
    refine less_ex (h' := h.did (.str "done")) hi rfl ?_
    have a := rank_new (r := r) s.top s.count i h (.str "done")
    have b := left_did (.str "done") e (pend_push e)
    have c : 1 ≤ rank r s.top s.count i h := by
      rw [rank_push e, hs]
      dsimp only
      repeat' split
      all_goals omega
    unfold psi1
    rw [← b, Nat.mul_add, Nat.mul_one]
    omega
  | missPush v t k f e hc hs hf n =>
    refine less_same (h' := h.again) hi rfl rfl rfl rfl rfl rfl ?_
    rw [rank_push (h := h.again) e, rank_push e, if_neg hc, hs]
    dsimp only
    rw [if_neg n, hf, if_neg (show ¬ (some f = none) by simp)]
    show (if h.cell = 0 then 1 else 0) + 3 < 0 + 4
    rw [if_neg hc]
    omega
  | meets e hs ht =>
    refine less_own (h' := h.did .non) hi rfl rfl rfl ?_
    have a := rank_new (r := r) s.top s.count i h .non
    have b : left (h.did .non) ≤ left h := by
      cases q : pend h with
      | false =>
        have := left_did .non e q
        omega
      | true => exact Nat.le_of_eq (left_lets .non q)
    have c : 1 ≤ rank r s.top s.count i h := by
      rw [rank_pop0 e hs, if_pos ht]
      exact Nat.le_refl _
    have d := Nat.mul_le_mul_left (5 * s.hands.length) b
    unfold psi1
    omega
  | readsPop e hs ht =>
    have nf := (bd hs).2
    refine less_same (h' := { h with seen := some (s.top, s.count) }) hi rfl rfl rfl rfl rfl rfl ?_
    rw [rank_pop (h := { h with seen := some (s.top, s.count) }) e rfl, rank_pop0 e hs, if_neg ht, if_pos rfl]
    have q : rankF s.top s.count { h with seen := some (s.top, s.count) } s.top s.count = 3 := by
      unfold rankF
      rw [if_pos ⟨rfl, rfl⟩, if_pos (show h.follow = none from nf)]
    rw [q]
    repeat' split
    all_goals omega
  | lets t k e hs hc =>
    have hpd : pend h = true := by rw [pend_pop e]; exact decide_eq_true hc
    refine less_own (h' := h.did (.int (valAt s.vals h.cell))) hi rfl rfl rfl ?_
    have a := rank_new (r := r) s.top s.count i h (.int (valAt s.vals h.cell))
    have b := left_lets (h := h) (.int (valAt s.vals h.cell)) hpd
    have c : 1 ≤ rank r s.top s.count i h := by
      rw [rank_pop e hs, if_pos hc]
      exact Nat.le_refl _
    unfold psi1
    rw [b]
    omega
  | marks t k e hs hc hm hl hk =>
    refine less_same (h' := { h with mark := t }) hi rfl rfl rfl rfl rfl rfl ?_
    rw [rank_pop (h := { h with mark := t }) e hs, rank_pop e hs, if_neg (show ¬ (h.cell ≠ 0) by omega), if_neg (show ¬ (h.cell ≠ 0) by omega), if_pos ⟨hm, hl⟩, if_pos (show mustMark r i = true ∧ h.looked = false from ⟨hm, hl⟩), if_pos hk, if_neg (show ¬ (t ≠ t) from fun z => z rfl)]
    have q : rankF s.top s.count { h with mark := t } t k = rankF s.top s.count h t k := rfl
    rw [q]
    omega
  | looks t k e hs hc hm hl hk ht =>
    refine less_same (h' := { h with looked := true }) hi rfl rfl rfl rfl rfl rfl ?_
    rw [rank_pop (h := { h with looked := true }) e hs, rank_pop e hs, if_neg (show ¬ (h.cell ≠ 0) by omega), if_neg (show ¬ (h.cell ≠ 0) by omega), if_neg (show ¬ (mustMark r i = true ∧ true = false) from fun z => Bool.noConfusion z.2), if_pos (show mustMark r i = true ∧ h.looked = false from ⟨hm, hl⟩), if_pos ht]
    have q : rankF s.top s.count { h with looked := true } t k = rankF s.top s.count h t k := rfl
    rw [q]
    omega
  | looksNot t k e hs hc hm hl hk ht =>
    refine less_same (h' := h.again) hi rfl rfl rfl rfl rfl rfl ?_
    rw [rank_pop0 (h := h.again) e rfl, rank_pop e hs, if_neg (show ¬ (h.cell ≠ 0) by omega), if_pos (show mustMark r i = true ∧ h.looked = false from ⟨hm, hl⟩), if_neg (show ¬ (s.top = t) from ht)]
    repeat' split
    all_goals omega
  | follows t k e hs hc hm hf =>
    refine less_same (h' := { h with follow := some (linkAt s.links t) }) hi rfl rfl rfl rfl rfl rfl ?_
    rw [rank_pop (h := { h with follow := some (linkAt s.links t) }) e hs, rank_pop e hs, if_neg (show ¬ (h.cell ≠ 0) by omega), if_neg (show ¬ (h.cell ≠ 0) by omega), if_neg (show ¬ (mustMark r i = true ∧ h.looked = false) from fun z => by rw [hm z.1] at z; exact Bool.noConfusion z.2), if_neg (fun z => by rw [hm z.1] at z; exact Bool.noConfusion z.2)]
    unfold rankF
    rw [if_neg (show ¬ (some (linkAt s.links t) = none) by simp), if_neg (show ¬ (some (linkAt s.links t) = none) by simp), if_pos hf, if_pos hf]
    split <;> omega
  | pops f e hs hc hm hf =>
    have t0 := bs e _ _ hs
    refine less_ex (h' := { h with cell := s.top }) hi rfl ?_
    have e2 : pend h = false := by rw [pend_pop e]; exact decide_eq_false (by omega)
    have e3 : pend { h with cell := s.top } = true := by rw [pend_pop (h := { h with cell := s.top }) e]; exact decide_eq_true t0
    have hl := (List.getElem?_eq_some_iff.mp e).1
    have b : left { h with cell := s.top } + 1 = left h := by
      unfold left
      rw [e2, e3]
      show h.deeds.length - (h.at_ + (if true = true then 1 else 0)) + 1 = h.deeds.length - (h.at_ + (if false = true then 1 else 0))
      simp
      omega
    have c : 2 ≤ rank r s.top s.count i h := by
      rw [rank_pop e hs, if_neg (show ¬ (h.cell ≠ 0) by omega)]
      have := (rankF_le s.top s.count h s.top s.count).2
      split
      · repeat' split
        all_goals omega
      · exact this
    have d : rank r s.top s.count i { h with cell := s.top } = 1 := by
      rw [rank_pop (h := { h with cell := s.top }) e hs, if_pos t0]
    unfold psi1
    rw [d, ← b, Nat.mul_add, Nat.mul_one]
    show 1 + costs (h.deeds.drop (h.at_ + 1)) + _ + _ < _
    omega
  | missPop t k f e hs hc hm hf n =>
    refine less_same (h' := h.again) hi rfl rfl rfl rfl rfl rfl ?_
    rw [rank_pop0 (h := h.again) e rfl, rank_pop e hs, if_neg (show ¬ (h.cell ≠ 0) by omega), if_neg (show ¬ (mustMark r i = true ∧ h.looked = false) from fun z => by rw [hm z.1] at z; exact Bool.noConfusion z.2)]
    have q : rankF s.top s.count h t k = 7 := by
      unfold rankF
      rw [if_neg n, hf, if_neg (show ¬ (some f = none) by simp)]
    rw [q]
    split <;> omega
theorem turn_le (B : Base s) : (turn r s i).2.toDo r ≤ s.toDo r := by
  cases hi : s.hands[i]? with
  | none =>
    rw [turn_none hi]
    exact Nat.le_refl _
  | some h =>
    rw [turn_some hi]
    by_cases op : h.deeds[h.at_]? = none
    · have : go r s i h = (.rests, s) := by
        unfold Sk.go
        rw [op]
      rw [this]
      exact Nat.le_refl _
    · exact Nat.le_of_lt ((go_kind r s i h).less B hi op)
theorem turn_lt (B : Base s) (hi : s.hands[i]? = some h) (op : h.at_ < h.deeds.length) : (turn r s i).2.toDo r < s.toDo r := by
  rw [turn_some hi]
  refine (go_kind r s i h).less B hi fun z => ?_
  have := List.getElem?_eq_none_iff.mp z
  omega
end
end Sk


/-! The pile, read from the top down. -/
namespace Sk
open PySem PySem.Spec PyProof.Rows L2
/-- unlike numbers of 1 to n are at most n -/
theorem few_of_nodup {n : Nat} : ∀ {l : List Nat}, l.Nodup → (∀ c ∈ l, 1 ≤ c ∧ c ≤ n) → l.length ≤ n := by
  induction n with
  | zero =>
    intro l _ h
    cases l with
    | nil => exact Nat.le_refl _
    | cons a l =>
      have := h a List.mem_cons_self
      omega
  | succ n ih =>
    intro l nd h
    have h2 : (l.erase (n + 1)).length ≤ n := by
      refine ih (nd.erase _) fun c hc => ?_
      have h3 := h c (List.mem_of_mem_erase hc)
      have h4 : c ≠ n + 1 := fun q => by
        rw [q] at hc
        exact (List.Nodup.mem_erase_iff nd).mp hc |>.1 rfl
      omega
    have h5 : l.length ≤ (l.erase (n + 1)).length + 1 := by
      by_cases hm : n + 1 ∈ l
      · rw [List.length_erase_of_mem hm]
        omega
      · rw [List.erase_of_not_mem hm]
        omega
    omega
/-- where the walk down stands: what was found, the cell it is at -/
structure Walk (ls : List Nat) (n : Nat) (acc : List Nat) (t : Nat) : Prop where
  nd : acc.Nodup
  bd : ∀ c ∈ acc, 1 ≤ c ∧ c ≤ n
  le : t ≤ n
theorem Walk.next {ls : List Nat} {n t : Nat} {acc : List Nat} (w : Walk ls n acc t) (h0 : t ≠ 0) (hn : t ∉ acc) (hl : ∀ c ∈ ls, c ≤ n) : Walk ls n (acc ++ [t]) (linkAt ls t) := by
  refine ⟨?_, fun c hc => ?_, ?_⟩
  · rw [List.nodup_append]
    exact ⟨w.nd, List.nodup_cons.mpr ⟨by simp, List.nodup_nil⟩, fun a ha b hb q => hn (by rw [List.mem_singleton.mp hb] at q; exact q ▸ ha)⟩
  · rcases List.mem_append.mp hc with q | q
    · exact w.bd c q
    · rw [List.mem_singleton.mp q]
      exact ⟨by omega, w.le⟩
  · unfold linkAt
    by_cases h : t - 1 < ls.length
    · simp only [List.getD, List.getElem?_eq_getElem h, Option.getD_some]
      exact hl _ (List.getElem_mem h)
    · simp [List.getD, List.getElem?_eq_none_iff.mpr (Nat.le_of_not_lt h)]
theorem Walk.len {ls : List Nat} {n t : Nat} {acc : List Nat} (w : Walk ls n acc t) : acc.length ≤ n := few_of_nodup w.nd w.bd
/-- more steps than there are cells change nothing -/
theorem pileFrom_stop {ls : List Nat} {t : Nat} {acc : List Nat} (m : Nat) (h : t = 0 ∨ t ∈ acc) : pileFrom ls m acc t = acc := by
  cases m with
  | zero => rfl
  | succ m =>
    unfold pileFrom
    rw [if_pos h]
theorem pileFrom_step {ls : List Nat} {t m : Nat} {acc : List Nat} (h0 : t ≠ 0) (hn : t ∉ acc) : pileFrom ls (m + 1) acc t = pileFrom ls m (acc ++ [t]) (linkAt ls t) := by
  show (if t = 0 ∨ t ∈ acc then acc else pileFrom ls m (acc ++ [t]) (linkAt ls t)) = _
  rw [if_neg (by rintro (q | q); exact h0 q; exact hn q)]
theorem pileFrom_more {ls : List Nat} {n : Nat} (hl : ∀ c ∈ ls, c ≤ n) : ∀ (m k : Nat) {acc : List Nat} {t : Nat}, Walk ls n acc t → n + 1 ≤ acc.length + m → m ≤ k → pileFrom ls k acc t = pileFrom ls m acc t
  | 0, k, acc, t, w, h, _ => by
    have := w.len
    omega
  | m + 1, 0, acc, t, w, h, hk => by omega
  | m + 1, k + 1, acc, t, w, h, hk => by
    by_cases q : t = 0 ∨ t ∈ acc
    · rw [pileFrom_stop _ q, pileFrom_stop _ q]
    · rw [not_or] at q
      rw [pileFrom_step q.1 q.2, pileFrom_step q.1 q.2]
      exact pileFrom_more hl m k (w.next q.1 q.2 hl) (by rw [List.length_append]; show n + 1 ≤ acc.length + 1 + m; omega) (by omega)
/-- as long as no exchange was stale the walk finds the pile itself -/
theorem pileFrom_chain {ls : List Nat} : ∀ (P acc : List Nat) (t m : Nat), Chain ls t P → (∀ c ∈ P, c ∉ acc) → P.Nodup → P.length < m → pileFrom ls m acc t = acc ++ P
  | [], acc, t, m, h, _, _, _ => by
    rw [pileFrom_stop m (.inl h), List.append_nil]
  | c :: P, acc, t, 0, h, d, n, l => by simp at l
  | c :: P, acc, t, m + 1, h, d, n, l => by
    obtain ⟨rfl, c0, ch⟩ := h
    obtain ⟨n1, n2⟩ := List.nodup_cons.mp n
    rw [pileFrom_step c0 (d _ List.mem_cons_self), pileFrom_chain P (acc ++ [t]) _ m ch (fun x hx q => ?_) n2 (by simp at l; omega), List.append_assoc]
    · rfl
    · rcases List.mem_append.mp q with q | q
      · exact d x (List.mem_cons_of_mem _ hx) q
      · rw [List.mem_singleton.mp q] at hx
        exact n1 hx
theorem Inv.pile {xs : List Int} {ps : List (List Deed)} {s : Mach} {P : List Nat} (I : Inv xs ps s P) : s.pile = P := by
  have nd : P.Nodup := by
    rw [List.nodup_iff_count]
    intro c
    have := I.each c
    split at this <;> omega
  have hl : P.length ≤ s.links.length := few_of_nodup nd fun c hc => ⟨(I.pileIn hc).2.1, (I.pileIn hc).2.2.1⟩
  unfold Mach.pile
  rw [pileFrom_chain P [] s.top _ I.chain (fun c _ => by simp) nd (by omega)]
  rfl
end Sk


namespace Sk
open PySem PySem.Spec PyProof.Rows L2
/-- numbers in their bounds -/
structure Bnd (n : Nat) (s : Mach) : Prop where
  len : s.vals.length = s.links.length
  few : s.vals.length ≤ n ∧ s.free.length ≤ n ∧ s.ends.length ≤ n ∧ ∀ h ∈ s.hands, h.said.length ≤ n
  free : ∀ c ∈ s.free, 1 ≤ c ∧ c ≤ s.vals.length
  top : s.top ≤ s.vals.length
  links : ∀ c ∈ s.links, c ≤ s.vals.length
  hands : ∀ h ∈ s.hands, h.cell ≤ s.vals.length ∧ (∀ t k, h.seen = some (t, k) → t ≤ s.vals.length) ∧ ∀ f, h.follow = some f → f ≤ s.vals.length

section
variable {s : Mach} {i : Nat} {h : Hand} {r : Rule} {n : Nat}
theorem mem_set {hs : List Hand} {i : Nat} {h' g : Hand} (m : g ∈ hs.set i h') : g ∈ hs ∨ g = h' := by
  obtain ⟨j, hj, e⟩ := List.mem_iff_getElem.mp m
  rw [List.getElem_set] at e
  split at e
  · exact .inr e.symm
  · rw [List.length_set] at hj
    exact .inl (e ▸ List.getElem_mem _)
/-- one hand changes, nothing else -/
theorem Bnd.put {h' : Hand} (B : Bnd n s) (hs : h'.said.length ≤ n) (hc : h'.cell ≤ s.vals.length ∧ (∀ t k, h'.seen = some (t, k) → t ≤ s.vals.length) ∧ ∀ f, h'.follow = some f → f ≤ s.vals.length) : Bnd n (s.put i h') := by
  refine ⟨B.len, ⟨B.few.1, B.few.2.1, B.few.2.2.1, fun g hg => ?_⟩, B.free, B.top, B.links, fun g hg => ?_⟩
  · rcases mem_set hg with z | z
    · exact B.few.2.2.2 g z
    · rw [z]; exact hs
  · rcases mem_set hg with z | z
    · exact B.hands g z
    · rw [z]; exact hc
theorem Bnd.up {m : Nat} (B : Bnd n s) (h : n ≤ m) : Bnd m s := ⟨B.len, ⟨Nat.le_trans B.few.1 h, Nat.le_trans B.few.2.1 h, Nat.le_trans B.few.2.2.1 h, fun g hg => Nat.le_trans (B.few.2.2.2 g hg) h⟩, B.free, B.top, B.links, B.hands⟩
theorem linkAt_le {ls : List Nat} {c m : Nat} (h : ∀ x ∈ ls, x ≤ m) : linkAt ls c ≤ m := by
  unfold linkAt
  by_cases z : c - 1 < ls.length
  · simp only [List.getD, List.getElem?_eq_getElem z, Option.getD_some]
    exact h _ (List.getElem_mem z)
  · simp [List.getD, List.getElem?_eq_none_iff.mpr (Nat.le_of_not_lt z)]
theorem Bnd.go {st : Stp} {s' : Mach} (B : Bnd n s) (hi : s.hands[i]? = some h) (G : Go r s i h st s') : Bnd (n + 1) s' := by
  have hm := List.mem_of_getElem? hi
  obtain ⟨b1, b2, b3⟩ := B.hands h hm
  have sd := B.few.2.2.2 h hm
  have B1 : Bnd (n + 1) s := B.up (Nat.le_succ n)
  have didOk : ∀ a : V, (h.did a).said.length ≤ n + 1 := fun a => by
    show (h.said ++ [a]).length ≤ n + 1
    rw [List.length_append]
    exact Nat.succ_le_succ sd
  have didB : ∀ (a : V) (m : Nat), (h.did a).cell ≤ m ∧ (∀ t k, (h.did a).seen = some (t, k) → t ≤ m) ∧ ∀ f, (h.did a).follow = some f → f ≤ m := fun a m => ⟨Nat.zero_le _, fun t k q => (by cases q), fun f q => (by cases q)⟩
  have agB : h.again.cell ≤ s.vals.length ∧ (∀ t k, h.again.seen = some (t, k) → t ≤ s.vals.length) ∧ ∀ f, h.again.follow = some f → f ≤ s.vals.length := ⟨b1, fun t k q => (by cases q), fun f q => (by cases q)⟩
  cases G with
  | rests e => exact B1
  | takesNew v e hc hp =>
    have up : ∀ x, x ≤ s.vals.length → x ≤ (s.vals ++ [v]).length := fun x hx => by rw [List.length_append]; omega
    refine ⟨by show (s.vals ++ [v]).length = (s.links ++ [0]).length; rw [List.length_append, List.length_append, B.len]; rfl, ⟨?_, Nat.le_succ_of_le B.few.2.1, Nat.le_succ_of_le B.few.2.2.1, fun g hg => ?_⟩, fun c hc2 => ⟨(B.free c hc2).1, up _ (B.free c hc2).2⟩, up _ B.top, fun c hc2 => ?_, fun g hg => ?_⟩
    · show (s.vals ++ [v]).length ≤ n + 1
      rw [List.length_append]
      exact Nat.succ_le_succ B.few.1
    · rcases mem_set hg with z | z
      · exact Nat.le_succ_of_le (B.few.2.2.2 g z)
      · rw [z]; exact Nat.le_succ_of_le sd
    · rcases List.mem_append.mp hc2 with z | z
      · exact up _ (B.links c z)
      · rw [List.mem_singleton.mp z]; exact Nat.zero_le _
    · rcases mem_set hg with z | z
      · obtain ⟨c1, c2, c3⟩ := B.hands g z
        exact ⟨up _ c1, fun t k q => up _ (c2 t k q), fun f q => up _ (c3 f q)⟩
      · rw [z]
        refine ⟨?_, fun t k q => up _ (b2 t k q), fun f q => up _ (b3 f q)⟩
        show s.vals.length + 1 ≤ (s.vals ++ [v]).length
        rw [List.length_append]
        exact Nat.le_refl _
  | takesFree v c e hc hp =>
    have hf := pick_mem hp
    have el : (s.vals.set (c - 1) v).length = s.vals.length := List.length_set
    refine ⟨by show (s.vals.set (c - 1) v).length = _; rw [el]; exact B.len, ⟨by show (s.vals.set (c - 1) v).length ≤ _; rw [el]; exact B1.few.1, ?_, B1.few.2.2.1, fun g hg => ?_⟩, fun d hd => ?_, by show _ ≤ (s.vals.set (c - 1) v).length; rw [el]; exact B.top, fun d hd => by show _ ≤ (s.vals.set (c - 1) v).length; rw [el]; exact B.links d hd, fun g hg => ?_⟩
    · exact Nat.le_trans List.length_erase_le B1.few.2.1
    · rcases mem_set hg with z | z
      · exact Nat.le_succ_of_le (B.few.2.2.2 g z)
      · rw [z]; exact Nat.le_succ_of_le sd
    · show 1 ≤ d ∧ d ≤ (s.vals.set (c - 1) v).length
      rw [el]
      exact B.free d (List.mem_of_mem_erase hd)
    · show _ ≤ (s.vals.set (c - 1) v).length ∧ (∀ t k, _ → _ ≤ (s.vals.set (c - 1) v).length) ∧ ∀ f, _ → _ ≤ (s.vals.set (c - 1) v).length
      rw [el]
      rcases mem_set hg with z | z
      · exact B.hands g z
      · rw [z]
        exact ⟨(B.free c hf).2, b2, b3⟩
  | readsPush v e hc hs =>
    refine B1.put (h' := { h with seen := some (s.top, s.count) }) (Nat.le_succ_of_le sd) ⟨b1, fun t k q => ?_, b3⟩
    have z : (s.top, s.count) = (t, k) := Option.some.inj q
    injection z with z1 _
    rw [← z1]
    exact B.top
  | links v t k e hc hs hf =>
    refine ⟨by show s.vals.length = (s.links.set (h.cell - 1) t).length; rw [List.length_set]; exact B.len, ⟨B1.few.1, B1.few.2.1, B1.few.2.2.1, fun g hg => ?_⟩, B.free, B.top, fun c hc2 => ?_, fun g hg => ?_⟩
    · rcases mem_set hg with z | z
      · exact Nat.le_succ_of_le (B.few.2.2.2 g z)
      · rw [z]; exact Nat.le_succ_of_le sd
    · obtain ⟨j, hj, ej⟩ := List.mem_iff_getElem.mp hc2
      rw [List.getElem_set] at ej
      split at ej
      · rw [← ej]; exact b2 t k hs
      · rw [← ej]; exact B.links _ (List.getElem_mem _)
    · rcases mem_set hg with z | z
      · exact B.hands g z
      · rw [z]
        refine ⟨b1, b2, fun f q => ?_⟩
        have : t = f := Option.some.inj q
        rw [← this]
        exact b2 t k hs
  | pushes v f e hc hs hf =>
    refine ⟨B.len, ⟨B1.few.1, B1.few.2.1, ?_, fun g hg => ?_⟩, B.free, b1, B.links, fun g hg => ?_⟩
    · show (s.ends ++ [(i, h.at_)]).length ≤ n + 1
      rw [List.length_append]
      exact Nat.succ_le_succ B.few.2.2.1
    · rcases mem_set hg with z | z
      · exact Nat.le_succ_of_le (B.few.2.2.2 g z)
      · rw [z]; exact didOk _
    · rcases mem_set hg with z | z
      · exact B.hands g z
      · rw [z]; exact didB _ _
  | missPush v t k f e hc hs hf nn => exact B1.put (h' := h.again) (Nat.le_succ_of_le sd) agB
  | meets e hs ht =>
    refine ⟨B.len, ⟨B1.few.1, B1.few.2.1, ?_, fun g hg => ?_⟩, B.free, B.top, B.links, fun g hg => ?_⟩
    · show (s.ends ++ [(i, h.at_)]).length ≤ n + 1
      rw [List.length_append]
      exact Nat.succ_le_succ B.few.2.2.1
    · rcases mem_set hg with z | z
      · exact Nat.le_succ_of_le (B.few.2.2.2 g z)
      · rw [z]; exact didOk _
    · rcases mem_set hg with z | z
      · exact B.hands g z
      · rw [z]; exact didB _ _
  | readsPop e hs ht =>
    refine B1.put (h' := { h with seen := some (s.top, s.count) }) (Nat.le_succ_of_le sd) ⟨b1, fun t k q => ?_, b3⟩
    have z : (s.top, s.count) = (t, k) := Option.some.inj q
    injection z with z1 _
    rw [← z1]
    exact B.top
  | lets t k e hs hc =>
    refine ⟨B.len, ⟨B1.few.1, ?_, B1.few.2.2.1, fun g hg => ?_⟩, fun c hc2 => ?_, B.top, B.links, fun g hg => ?_⟩
    · show (s.free ++ [h.cell]).length ≤ n + 1
      rw [List.length_append]
      exact Nat.succ_le_succ B.few.2.1
    · rcases mem_set hg with z | z
      · exact Nat.le_succ_of_le (B.few.2.2.2 g z)
      · rw [z]; exact didOk _
    · rcases List.mem_append.mp hc2 with z | z
      · exact B.free c z
      · rw [List.mem_singleton.mp z]
        exact ⟨by omega, b1⟩
    · rcases mem_set hg with z | z
      · exact B.hands g z
      · rw [z]; exact didB _ _
  | marks t k e hs hc hmm hl hk => exact B1.put (h' := { h with mark := t }) (Nat.le_succ_of_le sd) ⟨b1, b2, b3⟩
  | looks t k e hs hc hmm hl hk ht => exact B1.put (h' := { h with looked := true }) (Nat.le_succ_of_le sd) ⟨b1, b2, b3⟩
  | looksNot t k e hs hc hmm hl hk ht => exact B1.put (h' := h.again) (Nat.le_succ_of_le sd) agB
  | follows t k e hs hc hmm hf =>
    refine B1.put (h' := { h with follow := some (linkAt s.links t) }) (Nat.le_succ_of_le sd) ⟨b1, b2, fun f q => ?_⟩
    have : linkAt s.links t = f := Option.some.inj q
    rw [← this]
    exact linkAt_le B.links
  | pops f e hs hc hmm hf =>
    refine ⟨B.len, ⟨B1.few.1, B1.few.2.1, ?_, fun g hg => ?_⟩, B.free, b3 f hf, B.links, fun g hg => ?_⟩
    · show (s.ends ++ [(i, h.at_)]).length ≤ n + 1
      rw [List.length_append]
      exact Nat.succ_le_succ B.few.2.2.1
    · rcases mem_set hg with z | z
      · exact Nat.le_succ_of_le (B.few.2.2.2 g z)
      · rw [z]; exact Nat.le_succ_of_le sd
    · rcases mem_set hg with z | z
      · exact B.hands g z
      · rw [z]
        exact ⟨B.top, b2, b3⟩
  | missPop t k f e hs hc hmm hf nn => exact B1.put (h' := h.again) (Nat.le_succ_of_le sd) agB
theorem Bnd.turn (B : Bnd n s) : Bnd (n + 1) (turn r s i).2 := by
  cases hi : s.hands[i]? with
  | none =>
    rw [turn_none hi]
    exact B.up (Nat.le_succ n)
  | some h =>
    rw [turn_some hi]
    exact B.go hi (go_kind r s i h)
theorem Bnd.play : ∀ {w : List Nat} {s : Mach} {n : Nat}, Bnd n s → Bnd (n + w.length) (play r s w).2
  | [], _, _, B => B
  | i :: w, s, n, B => by
    have := Bnd.play (w := w) (s := (Sk.turn r s i).2) (n := n + 1) B.turn
    rw [show n + (i :: w).length = n + 1 + w.length by simp; omega]
    exact this
theorem Bnd.begun (xs : List Int) (ps : List (List Deed)) : Bnd xs.length (Mach.begun xs ps) := by
  have key : ∀ g ∈ ps.map Hand.new, g.said = [] ∧ g.cell = 0 ∧ g.seen = none ∧ g.follow = none := fun g hg => by
    obtain ⟨ds, _, rfl⟩ := List.mem_map.mp hg
    exact ⟨rfl, rfl, rfl, rfl⟩
  refine ⟨List.length_range.symm, ⟨Nat.le_refl _, Nat.zero_le _, Nat.zero_le _, fun g hg => ?_⟩, fun c hc => (by cases hc), Nat.le_refl _, fun c hc => ?_, fun g hg => ?_⟩
  · rw [(key g hg).1]
    exact Nat.zero_le _
  · have := List.mem_range.mp hc
    show c ≤ xs.length
    omega
  · obtain ⟨_, k2, k3, k4⟩ := key g hg
    rw [k2, k3, k4]
    exact ⟨Nat.zero_le _, fun t k q => (by cases q), fun f q => (by cases q)⟩
/-- no hand has done more deeds than it has -/
def AllLe (s : Mach) : Prop := ∀ h ∈ s.hands, h.at_ ≤ h.deeds.length
theorem AllLe.go {st : Stp} {s' : Mach} (B : AllLe s) (hi : s.hands[i]? = some h) (G : Go r s i h st s') : AllLe s' := by
  have hm := List.mem_of_getElem? hi
  have b := B h hm
  have put : ∀ h' : Hand, s'.hands = s.hands.set i h' → h'.at_ ≤ h'.deeds.length → AllLe s' := fun h' e l g hg => by
    rw [e] at hg
    rcases mem_set hg with z | z
    · exact B g z
    · rw [z]; exact l
  have lt : ∀ {d : Deed}, h.deeds[h.at_]? = some d → h.at_ + 1 ≤ h.deeds.length := fun e => (List.getElem?_eq_some_iff.mp e).1
  cases G with
  | rests e => exact B
  | pushes v f e hc hs hf => exact put _ rfl (lt e)
  | meets e hs ht => exact put _ rfl (lt e)
  | lets t k e hs hc => exact put _ rfl (lt e)
  | _ => exact put _ rfl b
theorem AllLe.turn (B : AllLe s) : AllLe (turn r s i).2 := by
  cases hi : s.hands[i]? with
  | none =>
    rw [turn_none hi]
    exact B
  | some h =>
    rw [turn_some hi]
    exact B.go hi (go_kind r s i h)
theorem AllLe.begun (xs : List Int) (ps : List (List Deed)) : AllLe (Mach.begun xs ps) := fun g hg => by
  obtain ⟨ds, _, rfl⟩ := List.mem_map.mp hg
  exact Nat.zero_le _
theorem go_many {st : Stp} {s' : Mach} (G : Go r s i h st s') : s'.hands.length = s.hands.length := by
  cases G <;> first | rfl | exact List.length_set
theorem turn_many : (turn r s i).2.hands.length = s.hands.length := by
  cases hi : s.hands[i]? with
  | none => rw [turn_none hi]
  | some h =>
    rw [turn_some hi]
    exact go_many (go_kind r s i h)
end
end Sk


/-! A hand that does a whole deed on end. -/
namespace Sk
open PySem PySem.Spec PyProof.Rows L2
structure Calm (h : Hand) : Prop where
  cell : h.cell = 0
  seen : h.seen = none
  follow : h.follow = none
  looked : h.looked = false
  mark : h.mark = 0
theorem Calm.did (h : Hand) (a : V) : Calm (h.did a) := ⟨rfl, rfl, rfl, rfl, rfl⟩
theorem Calm.new (ds : List Deed) : Calm (Hand.new ds) := ⟨rfl, rfl, rfl, rfl, rfl⟩
section
variable {r : Rule} {s : Mach} {i : Nat} {h : Hand}
theorem hand_set {h' : Hand} (hi : s.hands[i]? = some h) : (s.hands.set i h')[i]? = some h' := List.getElem?_set_self (lt_of_get hi)
/-- the machine behind a whole push -/
def pushed (r : Rule) (s : Mach) (i : Nat) (h : Hand) (v : Int) : Mach := match pick r s with
  | none => { s with vals := s.vals ++ [v], links := (s.links ++ [0]).set s.vals.length s.top, top := s.vals.length + 1, count := bump r s.count, ends := s.ends ++ [(i, h.at_)], hands := s.hands.set i (h.did (.str "done")) }
  | some c => { s with vals := s.vals.set (c - 1) v, links := s.links.set (c - 1) s.top, free := s.free.erase c, top := c, count := bump r s.count, ends := s.ends ++ [(i, h.at_)], hands := s.hands.set i (h.did (.str "done")) }
def pushCell (r : Rule) (s : Mach) : Nat := match pick r s with
  | none => s.vals.length + 1
  | some c => c
/-- the four steps of a push: each step's machine holds the hand's answers as before, the last one more -/
theorem run_push {v : Int} (hi : s.hands[i]? = some h) (e : h.deeds[h.at_]? = some (.push v)) (C : Calm h) (B : ∀ c ∈ s.free, c ≠ 0) :
    ∃ s1 s2 s3 : Mach, turn r s i = (.takes (pushCell r s), s1) ∧ turn r s1 i = (.reads s.top, s2) ∧ turn r s2 i = (.links s.top, s3) ∧ turn r s3 i = (.ends (.str "done"), pushed r s i h v) ∧
      (∃ h1, s1.hands = s.hands.set i h1 ∧ h1.said = h.said) ∧ (∃ h2, s2.hands = s.hands.set i h2 ∧ h2.said = h.said) ∧ ∃ h3, s3.hands = s.hands.set i h3 ∧ h3.said = h.said := by
  cases hp : pick r s with
  | none =>
    refine ⟨{ s with vals := s.vals ++ [v], links := s.links ++ [0], hands := s.hands.set i { h with cell := s.vals.length + 1 } }, { s with vals := s.vals ++ [v], links := s.links ++ [0], hands := s.hands.set i { h with cell := s.vals.length + 1, seen := some (s.top, s.count) } },
      { s with vals := s.vals ++ [v], links := (s.links ++ [0]).set s.vals.length s.top, hands := s.hands.set i { h with cell := s.vals.length + 1, seen := some (s.top, s.count), follow := some s.top } }, ?_, ?_, ?_, ?_, ⟨_, rfl, rfl⟩, ⟨_, rfl, rfl⟩, ⟨_, rfl, rfl⟩⟩
    · rw [turn_some hi]
      unfold go pushCell
      rw [e, hp]
      dsimp only
      rw [if_pos C.cell]
    · rw [turn_some (h := { h with cell := s.vals.length + 1 }) (hand_set hi)]
      unfold go
      dsimp only
      rw [e]
      dsimp only
      rw [if_neg (by omega), C.seen]
      simp [Mach.put]
    · rw [turn_some (h := { h with cell := s.vals.length + 1, seen := some (s.top, s.count) }) (hand_set hi)]
      unfold go
      dsimp only
      rw [e]
      dsimp only
      rw [if_neg (by omega), C.follow]
      simp
    · rw [turn_some (h := { h with cell := s.vals.length + 1, seen := some (s.top, s.count), follow := some s.top }) (hand_set hi)]
      unfold go pushed
      dsimp only
      rw [e, hp]
      dsimp only
      rw [if_neg (by omega)]
      simp [Hand.did]
  | some c =>
    have c0 := B c (pick_mem hp)
    refine ⟨{ s with vals := s.vals.set (c - 1) v, free := s.free.erase c, hands := s.hands.set i { h with cell := c } }, { s with vals := s.vals.set (c - 1) v, free := s.free.erase c, hands := s.hands.set i { h with cell := c, seen := some (s.top, s.count) } },
      { s with vals := s.vals.set (c - 1) v, links := s.links.set (c - 1) s.top, free := s.free.erase c, hands := s.hands.set i { h with cell := c, seen := some (s.top, s.count), follow := some s.top } }, ?_, ?_, ?_, ?_, ⟨_, rfl, rfl⟩, ⟨_, rfl, rfl⟩, ⟨_, rfl, rfl⟩⟩
    · rw [turn_some hi]
      unfold go pushCell
      rw [e, hp]
      dsimp only
      rw [if_pos C.cell]
    · rw [turn_some (h := { h with cell := c }) (hand_set hi)]
      unfold go
      dsimp only
      rw [e]
      dsimp only
      rw [if_neg c0, C.seen]
      simp [Mach.put]
    · rw [turn_some (h := { h with cell := c, seen := some (s.top, s.count) }) (hand_set hi)]
      unfold go
      dsimp only
      rw [e]
      dsimp only
      rw [if_neg c0, C.follow]
      simp
    · rw [turn_some (h := { h with cell := c, seen := some (s.top, s.count), follow := some s.top }) (hand_set hi)]
      unfold go pushed
      dsimp only
      rw [e, hp]
      dsimp only
      rw [if_neg c0]
      simp [Hand.did]
/-- a pop that meets none -/
theorem run_meets (hi : s.hands[i]? = some h) (e : h.deeds[h.at_]? = some .pop) (C : Calm h) (ht : s.top = 0) : turn r s i = (.ends .non, { s with ends := s.ends ++ [(i, h.at_)], hands := s.hands.set i (h.did .non) }) := by
  rw [turn_some hi]
  unfold go
  rw [e]
  dsimp only
  rw [C.seen]
  dsimp only
  rw [if_pos ht]
/-- the machine behind a whole pop -/
def popped (r : Rule) (s : Mach) (i : Nat) (h : Hand) : Mach :=
  { s with top := linkAt s.links s.top, count := bump r s.count, free := s.free ++ [s.top], ends := s.ends ++ [(i, h.at_)], hands := s.hands.set i (h.did (.int (valAt s.vals s.top))) }
/-- the steps behind the reading: marks and looks first, if the rule names the hand -/
theorem run_pop (hi : s.hands[i]? = some h) (e : h.deeds[h.at_]? = some .pop) (C : Calm h) (ht : s.top ≠ 0) :
    ∃ s1 sm s3 s4 : Mach, turn r s i = (.reads s.top, s1) ∧ (if mustMark r i = true then ∃ s2, turn r s1 i = (.marks s.top, s2) ∧ turn r s2 i = (.looks true, sm) ∧ ∃ h2, s2.hands = s.hands.set i h2 ∧ h2.said = h.said else sm = s1) ∧
      turn r sm i = (.follows (linkAt s.links s.top), s3) ∧ turn r s3 i = (.exchanges (linkAt s.links s.top), s4) ∧ turn r s4 i = (.ends (.int (valAt s.vals s.top)), popped r s i h) ∧
      (∃ h1, s1.hands = s.hands.set i h1 ∧ h1.said = h.said) ∧ (∃ h1, sm.hands = s.hands.set i h1 ∧ h1.said = h.said) ∧ (∃ h1, s3.hands = s.hands.set i h1 ∧ h1.said = h.said) ∧ (∃ h1, s4.hands = s.hands.set i h1 ∧ h1.said = h.said) := by
  cases hm : mustMark r i with
  | false =>
    refine ⟨s.put i { h with seen := some (s.top, s.count) }, s.put i { h with seen := some (s.top, s.count) }, s.put i { h with seen := some (s.top, s.count), follow := some (linkAt s.links s.top) },
      { s with top := linkAt s.links s.top, count := bump r s.count, ends := s.ends ++ [(i, h.at_)], hands := s.hands.set i { h with seen := some (s.top, s.count), follow := some (linkAt s.links s.top), cell := s.top } }, ?_, ?_, ?_, ?_, ?_, ⟨_, rfl, rfl⟩, ⟨_, rfl, rfl⟩, ⟨_, rfl, rfl⟩, ⟨_, rfl, rfl⟩⟩
    · rw [turn_some hi]
      unfold go
      rw [e]
      dsimp only
      rw [C.seen]
      dsimp only
      rw [if_neg ht]
    · rw [if_neg (by simp)]
    · rw [turn_some (h := { h with seen := some (s.top, s.count) }) (hand_set hi)]
      unfold go
      dsimp only [Mach.put]
      rw [e]
      dsimp only
      rw [if_neg (by rw [C.cell]; omega), if_neg (by rw [hm]; simp), C.follow]
      simp
    · rw [turn_some (h := { h with seen := some (s.top, s.count), follow := some (linkAt s.links s.top) }) (hand_set hi)]
      unfold go
      dsimp only [Mach.put]
      rw [e]
      dsimp only
      rw [if_neg (by rw [C.cell]; omega), if_neg (by rw [hm]; simp)]
      simp
    · rw [turn_some (h := { h with seen := some (s.top, s.count), follow := some (linkAt s.links s.top), cell := s.top }) (hand_set hi)]
      unfold go popped
      dsimp only
      rw [e]
      dsimp only
      rw [if_pos (by omega)]
      simp [Hand.did]
  | true =>
    refine ⟨s.put i { h with seen := some (s.top, s.count) }, s.put i { h with seen := some (s.top, s.count), mark := s.top, looked := true }, s.put i { h with seen := some (s.top, s.count), mark := s.top, looked := true, follow := some (linkAt s.links s.top) },
      { s with top := linkAt s.links s.top, count := bump r s.count, ends := s.ends ++ [(i, h.at_)], hands := s.hands.set i { h with seen := some (s.top, s.count), mark := s.top, looked := true, follow := some (linkAt s.links s.top), cell := s.top } }, ?_, ?_, ?_, ?_, ?_, ⟨_, rfl, rfl⟩, ⟨_, rfl, rfl⟩, ⟨_, rfl, rfl⟩, ⟨_, rfl, rfl⟩⟩
    · rw [turn_some hi]
      unfold go
      rw [e]
      dsimp only
      rw [C.seen]
      dsimp only
      rw [if_neg ht]
    · rw [if_pos rfl]
      refine ⟨s.put i { h with seen := some (s.top, s.count), mark := s.top }, ?_, ?_, ⟨_, rfl, rfl⟩⟩
      · rw [turn_some (h := { h with seen := some (s.top, s.count) }) (hand_set hi)]
        unfold go
        dsimp only [Mach.put]
        rw [e]
        dsimp only
        rw [if_neg (by rw [C.cell]; omega), if_pos ⟨hm, C.looked⟩, if_pos (by rw [C.mark]; exact Ne.symm ht)]
        simp
      · rw [turn_some (h := { h with seen := some (s.top, s.count), mark := s.top }) (hand_set hi)]
        unfold go
        dsimp only [Mach.put]
        rw [e]
        dsimp only
        rw [if_neg (by rw [C.cell]; omega), if_pos ⟨hm, C.looked⟩, if_neg (by simp)]
        simp
    · rw [turn_some (h := { h with seen := some (s.top, s.count), mark := s.top, looked := true }) (hand_set hi)]
      unfold go
      dsimp only [Mach.put]
      rw [e]
      dsimp only
      rw [if_neg (by rw [C.cell]; omega), if_neg (by simp), C.follow]
      simp
    · rw [turn_some (h := { h with seen := some (s.top, s.count), mark := s.top, looked := true, follow := some (linkAt s.links s.top) }) (hand_set hi)]
      unfold go
      dsimp only [Mach.put]
      rw [e]
      dsimp only
      rw [if_neg (by rw [C.cell]; omega), if_neg (by simp)]
      simp
    · rw [turn_some (h := { h with seen := some (s.top, s.count), mark := s.top, looked := true, follow := some (linkAt s.links s.top), cell := s.top }) (hand_set hi)]
      unfold go popped
      dsimp only
      rw [e]
      dsimp only
      rw [if_pos (by omega)]
      simp [Hand.did]
end
end Sk


/-! Weavings played, rounds to the end, what stands then. -/
namespace Sk
open PySem PySem.Spec PyProof.Rows L2
section
variable {r : Rule} {s : Mach} {i j : Nat} {h : Hand} {xs : List Int} {ps : List (List Deed)} {P : List Nat}
theorem Go.hands {st : Stp} {s' : Mach} (G : Go r s i h st s') : s' = s ∨ ∃ h', s'.hands = s.hands.set i h' ∧ h'.deeds = h.deeds := by
  cases G <;> first | exact .inl rfl | exact .inr ⟨_, rfl, rfl⟩
theorem turn_other (n : i ≠ j) : (turn r s i).2.hands[j]? = s.hands[j]? := by
  cases hi : s.hands[i]? with
  | none => rw [turn_none hi]
  | some h =>
    rw [turn_some hi]
    rcases (go_kind r s i h).hands with e | ⟨h', e, _⟩
    · rw [e]
    · rw [e, List.getElem?_set_ne n]
/-- the programs stay -/
theorem turn_progs : (turn r s i).2.hands.map Hand.deeds = s.hands.map Hand.deeds := by
  cases hi : s.hands[i]? with
  | none => rw [turn_none hi]
  | some h =>
    rw [turn_some hi]
    rcases (go_kind r s i h).hands with e | ⟨h', e, e2⟩
    · rw [e]
    · rw [e]
      apply List.ext_getElem?
      intro k
      rw [List.getElem?_map, List.getElem?_map, List.getElem?_set]
      split
      · rename_i q
        subst q
        split
        · rw [hi]
          simp [e2]
        · rename_i q
          exact absurd (lt_of_get hi) q
      · rfl
theorem play_many : ∀ {w : List Nat} {s : Mach}, (play r s w).2.hands.length = s.hands.length
  | [], _ => rfl
  | i :: w, s => by
    show (play r (turn r s i).2 w).2.hands.length = _
    rw [play_many, turn_many]
theorem play_append : ∀ {w v : List Nat} {s : Mach}, play r s (w ++ v) = ((play r s w).1 ++ (play r (play r s w).2 v).1, (play r (play r s w).2 v).2)
  | [], _, _ => rfl
  | i :: w, v, s => by
    show ((turn r s i).1 :: (play r (turn r s i).2 (w ++ v)).1, (play r (turn r s i).2 (w ++ v)).2) = _
    rw [play_append]
    rfl
theorem play_len : ∀ {w : List Nat} {s : Mach}, (play r s w).1.length = w.length
  | [], _ => rfl
  | i :: w, s => by
    show (play r (turn r s i).2 w).1.length + 1 = w.length + 1
    rw [play_len]
theorem play_le : ∀ {w : List Nat} {s : Mach}, Base s → (play r s w).2.toDo r ≤ s.toDo r
  | [], _, _ => Nat.le_refl _
  | i :: w, s, B => Nat.le_trans (play_le (w := w) B.turn) (turn_le B)
/-- a weaving that names a hand which has not done all brings the end nearer -/
theorem play_lt : ∀ {w : List Nat} {s : Mach}, Base s → s.hands[i]? = some h → h.at_ < h.deeds.length → i ∈ w → (play r s w).2.toDo r < s.toDo r
  | [], _, _, _, _, m => by cases m
  | j :: w, s, B, hi, op, m => by
    by_cases q : j = i
    · subst q
      exact Nat.lt_of_le_of_lt (play_le (w := w) B.turn) (turn_lt B hi op)
    · have m2 : i ∈ w := by
        rcases List.mem_cons.mp m with z | z
        · exact absurd z.symm q
        · exact z
      exact Nat.lt_of_lt_of_le (play_lt (w := w) (s := (turn r s j).2) B.turn (by rw [turn_other q]; exact hi) op m2) (turn_le B)
/-- all hands do a step -/
def Mach.round (r : Rule) (s : Mach) : Mach := (play r s (List.range s.hands.length)).2
theorem round_lt (B : Base s) (nd : s.done = false) : (s.round r).toDo r < s.toDo r := by
  unfold Mach.done at nd
  obtain ⟨g, hg, e⟩ : ∃ g ∈ s.hands, g.at_ < g.deeds.length := by
    refine Classical.byContradiction fun no => ?_
    have : (s.hands.all fun h => decide (h.deeds.length ≤ h.at_)) = true := List.all_eq_true.mpr fun g hg => decide_eq_true (Nat.le_of_not_lt fun q => no ⟨g, hg, q⟩)
    rw [this] at nd
    cases nd
  obtain ⟨k, hk, ek⟩ := List.mem_iff_getElem.mp hg
  exact play_lt B (by rw [List.getElem?_eq_getElem hk, ek]) e (List.mem_range.mpr hk)
/-- rounds till all is done -/
def rounds (r : Rule) : Nat → Mach → Mach
  | 0, s => s
  | n + 1, s => if s.done = true then s else rounds r n (s.round r)
theorem rounds_done : ∀ {n : Nat} {s : Mach}, Base s → s.toDo r ≤ n → (rounds r n s).done = true
  | 0, s, B, h => by
    show s.done = true
    cases q : s.done with
    | true => rfl
    | false =>
      have := round_lt (r := r) B q
      omega
  | n + 1, s, B, h => by
    unfold rounds
    by_cases q : s.done = true
    · rw [if_pos q]; exact q
    · rw [if_neg q]
      have q2 : s.done = false := by simpa using q
      have := round_lt (r := r) B q2
      exact rounds_done (s := s.round r) B.play (by omega)
/-- the weaving, then all hands by turns to the end -/
def wholeM (r : Rule) (s : Mach) (w : List Nat) : Mach := rounds r ((play r s w).2.toDo r) (play r s w).2
/-! ### no stale exchange -/
theorem Safe.begun (xs : List Int) (ps : List (List Deed)) : Safe r (Mach.begun xs ps) := by
  refine ⟨fun i h hi _ _ t k q => ?_, fun m _ => Nat.zero_le _⟩
  obtain ⟨ds, _, rfl⟩ := List.mem_map.mp (List.mem_of_getElem? (show (ps.map Hand.new)[i]? = some h from hi))
  cases q
structure Fine (r : Rule) (xs : List Int) (ps : List (List Deed)) (s : Mach) : Prop where
  inv : ∃ P, Inv xs ps s P
  safe : Safe r s
  fresh : s.stale = false
theorem Fine.begun (xs : List Int) (ps : List (List Deed)) : Fine r xs ps (Mach.begun xs ps) := ⟨⟨_, Inv.begun xs ps⟩, Safe.begun xs ps, rfl⟩
theorem Fine.turn (gd : Good r ps) (F : Fine r xs ps s) : Fine r xs ps (turn r s i).2 := by
  obtain ⟨⟨P, I⟩, S, n0⟩ := F
  cases hi : s.hands[i]? with
  | none =>
    rw [turn_none hi]
    exact ⟨⟨P, I⟩, S, n0⟩
  | some h =>
    rw [turn_some hi]
    obtain ⟨n1, S1⟩ := S.go gd I n0 hi (go_kind r s i h)
    exact ⟨⟨_, I.go hi (go_kind r s i h) n1⟩, S1, n1⟩
theorem Fine.play (gd : Good r ps) : ∀ {w : List Nat} {s : Mach}, Fine r xs ps s → Fine r xs ps (play r s w).2
  | [], _, F => F
  | _ :: w, _, F => Fine.play gd (w := w) (F.turn gd)
theorem Fine.rounds (gd : Good r ps) : ∀ {n : Nat} {s : Mach}, Fine r xs ps s → Fine r xs ps (rounds r n s)
  | 0, _, F => F
  | n + 1, s, F => by
    unfold Sk.rounds
    by_cases q : s.done = true
    · rw [if_pos q]; exact F
    · rw [if_neg q]; exact Fine.rounds gd (F.play gd)
/-- by keeps, by marks of all hands, by a count more than there are deeds: none is stale -/
theorem never_stale (gd : Good r ps) (xs : List Int) (w : List Nat) : (play r (Mach.begun xs ps) w).2.stale = false := (Fine.play gd (Fine.begun xs ps)).fresh
/-! ### all done -/
theorem done_pend (I : Inv xs ps s P) (d : s.done = true) (hi : s.hands[i]? = some h) : h.at_ = h.deeds.length ∧ pend h = false := by
  have q := List.all_eq_true.mp d h (List.mem_of_getElem? hi)
  have q2 : h.deeds.length ≤ h.at_ := of_decide_eq_true q
  have e := Nat.le_antisymm (I.hand i h hi).le q2
  refine ⟨e, ?_⟩
  unfold pend
  rw [List.getElem?_eq_none_iff.mpr (by omega)]
/-- at the end each hand's answers are those of its deeds in the order, its deeds stand in the order one behind another -/
theorem done_said (I : Inv xs ps s P) (d : s.done = true) (hi : s.hands[i]? = some h) : h.said = ownAns i s.ends (acts xs (decided ps s.ends)).1 ∧ ownEnds i s.ends = List.range h.deeds.length := by
  obtain ⟨e, p⟩ := done_pend I d hi
  have k := I.hand i h hi
  have a := k.said
  have b := k.own
  rw [p] at a b
  rw [e] at b
  refine ⟨?_, ?_⟩
  · rw [a]
    show h.said = h.said ++ []
    rw [List.append_nil]
  · rw [b]
    rfl
end
end Sk


/-! Two counts that never come round; values called otherwise. -/
namespace Sk
open PySem PySem.Spec PyProof.Rows L2
section
variable {r : Rule} {s : Mach} {i j : Nat} {h : Hand} {xs : List Int} {ps : List (List Deed)} {P : List Nat}
theorem go_counts {m m2 : Nat} (e : bump (.counts m) s.count = bump (.counts m2) s.count) : go (.counts m) s i h = go (.counts m2) s i h := by
  have hp : pick (.counts m) s = pick (.counts m2) s := rfl
  have hm : mustMark (.counts m) i = mustMark (.counts m2) i := rfl
  unfold go
  rw [hp, hm, e]
/-- a turn is the same by two counts that are more than all deeds -/
theorem turn_counts {m m2 : Nat} (g1 : total ps < m) (g2 : total ps < m2) (F : Fine (.counts m) xs ps s) : turn (.counts m) s i = turn (.counts m2) s i := by
  obtain ⟨⟨P, I⟩, S, n0⟩ := F
  cases hi : s.hands[i]? with
  | none => rw [turn_none hi, turn_none hi]
  | some h =>
    rw [turn_some hi, turn_some hi]
    by_cases e : bump (.counts m) s.count = bump (.counts m2) s.count
    · exact go_counts e
    · -- the count is all deeds: none is open, so nothing is exchanged
      have lo := S.low m rfl
      have le := I.ends_le
      have hc : ¬ s.count + 1 < m ∨ ¬ s.count + 1 < m2 := by
        refine Classical.byContradiction fun no => e ?_
        rw [not_or, Classical.not_not, Classical.not_not] at no
        show (s.count + 1) % m = (s.count + 1) % m2
        rw [Nat.mod_eq_of_lt no.1, Nat.mod_eq_of_lt no.2]
      have all : s.ends.length = total ps := by omega
      have closed : ∀ d, h.deeds[h.at_]? = some d → pend h = true := fun d hd => by
        cases q : pend h with
        | true => rfl
        | false =>
          have := I.ends_lt hi hd q
          omega
      unfold go
      cases hd : h.deeds[h.at_]? with
      | none => rfl
      | some d =>
        have p := closed d hd
        cases d with
        | push v =>
          rw [pend_push hd] at p
          cases p
        | pop =>
          rw [pend_pop hd] at p
          have c0 : h.cell ≠ 0 := of_decide_eq_true p
          dsimp only
          cases hs : h.seen with
          | none => exact absurd hs ((I.hand i h hi).kept hd c0)
          | some tk =>
            dsimp only
            rw [if_pos (by omega), if_pos (by omega)]
theorem play_counts {m m2 : Nat} (g1 : total ps < m) (g2 : total ps < m2) : ∀ {w : List Nat} {s : Mach}, Fine (.counts m) xs ps s → play (.counts m) s w = play (.counts m2) s w
  | [], _, _ => rfl
  | i :: w, s, F => by
    have e := turn_counts (i := i) g1 g2 F
    show ((turn (.counts m) s i).1 :: (play (.counts m) (turn (.counts m) s i).2 w).1, (play (.counts m) (turn (.counts m) s i).2 w).2) = _
    rw [play_counts g1 g2 (w := w) (F.turn g1), e]
    rfl
/-! ### values called otherwise -/
def mapV (f : Int → Int) : V → V
  | .int v => .int (f v)
  | v => v
def mapD (f : Int → Int) : Deed → Deed
  | .push v => .push (f v)
  | .pop => .pop
def mapStp (f : Int → Int) : Stp → Stp
  | .ends a => .ends (mapV f a)
  | s => s
def Hand.map (f : Int → Int) (h : Hand) : Hand := { h with deeds := h.deeds.map (mapD f), said := h.said.map (mapV f) }
def Mach.map (f : Int → Int) (s : Mach) : Mach := { s with vals := s.vals.map f, hands := s.hands.map (Hand.map f) }
theorem pick_map (f : Int → Int) : pick r (s.map f) = pick r s := by
  unfold pick
  have e : ((s.map f).hands.map Hand.mark) = s.hands.map Hand.mark := by
    show (s.hands.map (Hand.map f)).map Hand.mark = _
    rw [List.map_map]
    rfl
  cases r with
  | keeps => rfl
  | counts m => rw [e]; rfl
  | marks hs => rw [e]; rfl
theorem valAt_map (f : Int → Int) {c : Nat} (h1 : 1 ≤ c) (h2 : c ≤ s.vals.length) : valAt (s.map f).vals c = f (valAt s.vals c) := by
  unfold valAt
  show (s.vals.map f).getD (c - 1) 0 = _
  have lt : c - 1 < s.vals.length := by omega
  simp [List.getD, List.getElem?_eq_getElem lt]
theorem set_map (f : Int → Int) {h' : Hand} : (s.hands.map (Hand.map f)).set i (h'.map f) = (s.hands.set i h').map (Hand.map f) := by
  rw [List.map_set]
theorem go_map (f : Int → Int) {n : Nat} (B : Bnd n s) (hi : s.hands[i]? = some h) : go r (s.map f) i (h.map f) = (mapStp f (go r s i h).1, (go r s i h).2.map f) := by
  have bh := B.hands h (List.mem_of_getElem? hi)
  have ed : (h.map f).deeds[(h.map f).at_]? = (h.deeds[h.at_]?).map (mapD f) := by
    show (h.deeds.map (mapD f))[h.at_]? = _
    rw [List.getElem?_map]
  have did : ∀ a, (h.map f).did (mapV f a) = (h.did a).map f := fun a => by
    unfold Hand.did Hand.map
    simp
  unfold go
  rw [ed, pick_map]
  cases h.deeds[h.at_]? with
  | none => rfl
  | some d =>
    cases d with
    | push v =>
      show (if h.cell = 0 then _ else _) = _
      by_cases hc : h.cell = 0
      · rw [if_pos hc]
        dsimp only
        rw [if_pos hc]
        cases pick r s with
        | none =>
          show (Stp.takes ((s.map f).vals.length + 1), _) = _
          simp [Mach.map, mapStp, Hand.map, List.map_set]
        | some c =>
          simp [Mach.map, mapStp, Hand.map, List.map_set]
      · rw [if_neg hc]
        dsimp only
        rw [if_neg hc]
        show (match h.seen with | none => _ | some (t, k) => _) = _
        cases hs : h.seen with
        | none => simp [Mach.map, Mach.put, mapStp, Hand.map, List.map_set, hs]
        | some tk =>
          obtain ⟨t, k⟩ := tk
          dsimp only
          show (match h.follow with | none => _ | some _ => _) = _
          cases hf : h.follow with
          | none => simp [Mach.map, mapStp, Hand.map, List.map_set, hs, hf]
          | some f2 =>
            dsimp only
            by_cases e : s.top = t ∧ s.count = k
            · rw [if_pos e, if_pos (show (s.map f).top = t ∧ (s.map f).count = k from e)]
              simp [Mach.map, mapStp, Hand.map, Hand.did, mapV, List.map_set, hs, hf]
            · rw [if_neg e, if_neg (show ¬ ((s.map f).top = t ∧ (s.map f).count = k) from e)]
              simp [Mach.map, Mach.put, mapStp, Hand.map, Hand.again, List.map_set, hs, hf]
    | pop =>
      show (match h.seen with | none => _ | some (t, k) => _) = _
      cases hs : h.seen with
      | none =>
        dsimp only
        by_cases e : s.top = 0
        · rw [if_pos e, if_pos (show (s.map f).top = 0 from e)]
          simp [Mach.map, mapStp, Hand.map, Hand.did, mapV, List.map_set, hs]
        · rw [if_neg e, if_neg (show ¬ (s.map f).top = 0 from e)]
          simp [Mach.map, Mach.put, mapStp, Hand.map, List.map_set, hs]
      | some tk =>
        obtain ⟨t, k⟩ := tk
        dsimp only
        by_cases c0 : 0 < h.cell
        · rw [if_pos c0, if_pos (show 0 < (h.map f).cell from c0)]
          have ev := valAt_map (s := s) f c0 bh.1
          show (Stp.ends (.int (valAt (s.map f).vals h.cell)), _) = _
          rw [show (h.map f).cell = h.cell from rfl, ev]
          simp [Mach.map, mapStp, Hand.map, Hand.did, mapV, List.map_set, hs]
        · rw [if_neg c0, if_neg (show ¬ 0 < (h.map f).cell from c0)]
          by_cases em : mustMark r i = true ∧ h.looked = false
          · rw [if_pos em, if_pos (show mustMark r i = true ∧ (h.map f).looked = false from em)]
            by_cases ek : h.mark ≠ t
            · rw [if_pos ek, if_pos (show (h.map f).mark ≠ t from ek)]
              simp [Mach.map, Mach.put, mapStp, Hand.map, List.map_set, hs]
            · rw [if_neg ek, if_neg (show ¬ (h.map f).mark ≠ t from ek)]
              by_cases et : s.top = t
              · rw [if_pos et, if_pos (show (s.map f).top = t from et)]
                simp [Mach.map, Mach.put, mapStp, Hand.map, List.map_set, hs]
              · rw [if_neg et, if_neg (show ¬ (s.map f).top = t from et)]
                simp [Mach.map, Mach.put, mapStp, Hand.map, Hand.again, List.map_set, hs]
          · rw [if_neg em, if_neg (show ¬ (mustMark r i = true ∧ (h.map f).looked = false) from em)]
            show (match h.follow with | none => _ | some _ => _) = _
            cases hf : h.follow with
            | none => simp [Mach.map, Mach.put, mapStp, Hand.map, List.map_set, hs, hf]
            | some f2 =>
              dsimp only
              by_cases e : s.top = t ∧ s.count = k
              · rw [if_pos e, if_pos (show (s.map f).top = t ∧ (s.map f).count = k from e)]
                simp [Mach.map, mapStp, Hand.map, List.map_set, hs, hf]
              · rw [if_neg e, if_neg (show ¬ ((s.map f).top = t ∧ (s.map f).count = k) from e)]
                simp [Mach.map, Mach.put, mapStp, Hand.map, Hand.again, List.map_set, hs, hf]
theorem turn_map (f : Int → Int) {n : Nat} (B : Bnd n s) : turn r (s.map f) i = (mapStp f (turn r s i).1, (turn r s i).2.map f) := by
  cases hi : s.hands[i]? with
  | none =>
    rw [turn_none hi, turn_none (show (s.map f).hands[i]? = none by show (s.hands.map (Hand.map f))[i]? = none; rw [List.getElem?_map, hi]; rfl)]
    rfl
  | some h =>
    rw [turn_some hi, turn_some (h := h.map f) (show (s.map f).hands[i]? = some (h.map f) by show (s.hands.map (Hand.map f))[i]? = _; rw [List.getElem?_map, hi]; rfl)]
    exact go_map f B hi
theorem play_map (f : Int → Int) : ∀ {w : List Nat} {s : Mach} {n : Nat}, Bnd n s → play r (s.map f) w = ((play r s w).1.map (mapStp f), (play r s w).2.map f)
  | [], _, _, _ => rfl
  | i :: w, s, n, B => by
    show ((turn r (s.map f) i).1 :: (play r (turn r (s.map f) i).2 w).1, (play r (turn r (s.map f) i).2 w).2) = _
    rw [turn_map f B, play_map f (w := w) B.turn]
    rfl
end
end Sk


/-! The machine as the package keeps it: one record a hand, and a step of it. -/
namespace Sk
open PySem PySem.Spec PyProof.Rows L2
structure PHand where
  num : Nat
  phase : Nat
  cell : Nat
  top : Nat
  count : Nat
  fol : Nat
  mark : Nat
structure PSt where
  top : Nat
  count : Nat
  nexts : List Nat
  free : List Nat
  vals : List Int
  hands : List PHand
def PHand.ahead (n : Nat) : PHand := ⟨n, 0, 0, 0, 0, 0, 0⟩
def PHand.anew (x : PHand) : PHand := ⟨x.num, 0, x.cell, 0, 0, 0, x.mark⟩
def PSt.put (S : PSt) (i : Nat) (x : PHand) : PSt := { S with hands := S.hands.set i x }
def PSt.done (S : PSt) (i : Nat) (x : PHand) : PSt := S.put i (.ahead (x.num + 1))
def PSt.begun (xs : List Int) (n : Nat) : PSt := ⟨xs.length, 0, List.range xs.length, [], xs, List.replicate n (.ahead 0)⟩
def placeP (r : Rule) (S : PSt) : Option Nat := match r with
  | .keeps => none
  | _ => S.free.findIdx? fun c => !((S.hands.map PHand.mark).contains c)
def takeP (r : Rule) (S : PSt) (i : Nat) (x : PHand) (v : Int) : Stp × PSt := match placeP r S with
  | none => (.takes (S.nexts.length + 1), { S with nexts := S.nexts ++ [0], vals := S.vals ++ [v], hands := S.hands.set i { x with cell := S.nexts.length + 1 } })
  | some j => (.takes (S.free.getD j 0), { S with free := S.free.eraseIdx j, vals := S.vals.set (S.free.getD j 0 - 1) v, hands := S.hands.set i { x with cell := S.free.getD j 0 } })
def readP (S : PSt) (i : Nat) (x : PHand) (pushes : Bool) : Stp × PSt :=
  if S.top = 0 ∧ pushes = false then (.ends .non, S.done i x) else (.reads S.top, S.put i ⟨x.num, 1, x.cell, S.top, S.count, 0, x.mark⟩)
def linkP (S : PSt) (i : Nat) (x : PHand) : Stp × PSt := (.links x.top, { S with nexts := S.nexts.set (x.cell - 1) x.top, hands := S.hands.set i { x with phase := 3 } })
def markP (S : PSt) (i : Nat) (x : PHand) : Stp × PSt :=
  if x.mark ≠ x.top then (.marks x.top, S.put i { x with mark := x.top }) else if S.top ≠ x.top then (.looks false, S.put i x.anew) else (.looks true, S.put i { x with phase := 2 })
def followP (S : PSt) (i : Nat) (x : PHand) : Stp × PSt := (.follows (linkAt S.nexts x.top), S.put i { x with phase := 3, fol := linkAt S.nexts x.top })
def PSt.wtop (r : Rule) (S : PSt) (t : Nat) : PSt := { S with top := t, count := bump r S.count }
def exchP (r : Rule) (S : PSt) (i : Nat) (x : PHand) (pushes : Bool) : Stp × PSt :=
  if S.top ≠ x.top ∨ S.count ≠ x.count then (.misses, S.put i x.anew)
  else if pushes = true then (.ends doneV, (S.wtop r x.cell).done i x) else (.exchanges x.fol, (S.wtop r x.fol).put i ⟨x.num, 4, 0, x.top, 0, 0, x.mark⟩)
def letP (S : PSt) (i : Nat) (x : PHand) : Stp × PSt := (.ends (.int (valAt S.vals x.top)), { S with free := S.free ++ [x.top] }.done i x)
/-- a step of hand i, x as it stands, its deeds ds -/
def stepP (r : Rule) (S : PSt) (i : Nat) (x : PHand) (ds : List Deed) : Stp × PSt := match ds[x.num]? with
  | none => (.rests, S)
  | some (.push v) => if x.cell = 0 then takeP r S i x v else if x.phase = 0 then readP S i x true else if x.phase = 3 then exchP r S i x true else linkP S i x
  | some .pop => if x.phase = 0 then readP S i x false else if x.phase = 3 then exchP r S i x false else if x.phase = 4 then letP S i x
    else if x.phase = 1 ∧ mustMark r i = true then markP S i x else followP S i x
/-! ### the document's machine read so -/
def Hand.ph (h : Hand) : PHand := match h.deeds[h.at_]? with
  | none => ⟨h.at_, 0, 0, 0, 0, 0, h.mark⟩
  | some (.push _) => match h.seen with
    | none => ⟨h.at_, 0, h.cell, 0, 0, 0, h.mark⟩
    | some (t, k) => if h.follow.isSome then ⟨h.at_, 3, h.cell, t, k, 0, h.mark⟩ else ⟨h.at_, 1, h.cell, t, k, 0, h.mark⟩
  | some .pop => match h.seen with
    | none => ⟨h.at_, 0, 0, 0, 0, 0, h.mark⟩
    | some (t, k) => if h.cell ≠ 0 then ⟨h.at_, 4, 0, h.cell, 0, 0, h.mark⟩ else match h.follow with
      | some f => ⟨h.at_, 3, 0, t, k, f, h.mark⟩
      | none => if h.looked = true then ⟨h.at_, 2, 0, t, k, 0, h.mark⟩ else ⟨h.at_, 1, 0, t, k, 0, h.mark⟩
def Mach.ps (s : Mach) : PSt := ⟨s.top, s.count, s.links, s.free, s.vals, s.hands.map Hand.ph⟩
theorem ph_mark (h : Hand) : h.ph.mark = h.mark := by
  unfold Hand.ph
  repeat' split
  all_goals rfl
theorem ph_num (h : Hand) : h.ph.num = h.at_ := by
  unfold Hand.ph
  repeat' split
  all_goals rfl
/-- no hand follows ahead of its mark, none has anything where it has nothing to do -/
structure Fitm (r : Rule) (s : Mach) : Prop where
  fol : ∀ (i : Nat) (h : Hand), s.hands[i]? = some h → h.deeds[h.at_]? = some .pop → h.follow ≠ none → mustMark r i = true → h.looked = true
  new : ∀ (i : Nat) (h : Hand), s.hands[i]? = some h → ∀ v, h.deeds[h.at_]? = some (.push v) → h.cell = 0 → h.seen = none
  idle : ∀ (i : Nat) (h : Hand), s.hands[i]? = some h → h.deeds[h.at_]? = some .pop → h.seen = none → h.cell = 0
theorem map_set {f : Hand → PHand} {hs : List Hand} {i : Nat} {h : Hand} : (hs.set i h).map f = (hs.map f).set i (f h) := by
  rw [List.map_set]
theorem put_ps (s : Mach) (i : Nat) (h : Hand) : (s.put i h).ps = s.ps.put i h.ph := by
  unfold Mach.put Mach.ps PSt.put
  simp only [map_set]
theorem did_ph (h : Hand) (a : V) : (h.did a).ph = .ahead (h.at_ + 1) := by
  unfold Hand.ph Hand.did PHand.ahead
  dsimp only
  repeat' split
  all_goals (first | rfl | simp_all)
theorem erase_findIdx {p : Nat → Bool} : ∀ {l : List Nat} {c : Nat}, l.find? p = some c → ∃ j, l.findIdx? p = some j ∧ l.getD j 0 = c ∧ l.eraseIdx j = l.erase c
  | [], _, h => by cases h
  | x :: l, c, h => by
    rw [List.find?_cons] at h
    rw [List.findIdx?_cons]
    cases e : p x with
    | true =>
      rw [e] at h
      have h := Option.some.inj h
      subst h
      exact ⟨0, by simp, rfl, by simp⟩
    | false =>
      rw [e] at h
      obtain ⟨j, h1, h2, h3⟩ := erase_findIdx h
      have ne : x ≠ c := fun q => by
        have := List.find?_some h
        rw [← q, e] at this
        cases this
      refine ⟨j + 1, by simp [h1], by simpa using h2, ?_⟩
      rw [List.eraseIdx_cons_succ, h3, List.erase_cons_tail (by simpa using ne)]
theorem place_pick {r : Rule} {s : Mach} : (pick r s = none ∧ placeP r s.ps = none) ∨ ∃ c j, pick r s = some c ∧ placeP r s.ps = some j ∧ s.free.getD j 0 = c ∧ s.free.eraseIdx j = s.free.erase c := by
  have em : s.ps.hands.map PHand.mark = s.hands.map Hand.mark := by
    show (s.hands.map Hand.ph).map PHand.mark = _
    rw [List.map_map]
    exact List.map_congr_left fun h _ => ph_mark h
  cases r with
  | keeps => exact .inl ⟨rfl, rfl⟩
  | counts m =>
    unfold pick placeP
    dsimp only
    rw [em]
    cases e : s.free.find? (fun c => !((s.hands.map Hand.mark).contains c)) with
    | none => exact .inl ⟨rfl, by rw [List.findIdx?_eq_none_iff]; rw [List.find?_eq_none] at e; exact fun x hx => by simpa using e x hx⟩
    | some c =>
      obtain ⟨j, h1, h2, h3⟩ := erase_findIdx e
      exact .inr ⟨c, j, rfl, h1, h2, h3⟩
  | marks hs =>
    unfold pick placeP
    dsimp only
    rw [em]
    cases e : s.free.find? (fun c => !((s.hands.map Hand.mark).contains c)) with
    | none => exact .inl ⟨rfl, by rw [List.findIdx?_eq_none_iff]; rw [List.find?_eq_none] at e; exact fun x hx => by simpa using e x hx⟩
    | some c =>
      obtain ⟨j, h1, h2, h3⟩ := erase_findIdx e
      exact .inr ⟨c, j, rfl, h1, h2, h3⟩
section
variable {r : Rule} {s : Mach} {i : Nat} {h : Hand}
/-- the package's step is the document's -/
theorem step_go (len : s.vals.length = s.links.length) (B : Base s) (F : Fitm r s) (hi : s.hands[i]? = some h) : stepP r s.ps i h.ph h.deeds = ((go r s i h).1, (go r s i h).2.ps) := by
  have k := go_kind r s i h
  generalize go r s i h = g at k ⊢
  obtain ⟨st, s'⟩ := g
  dsimp only at k ⊢
  have bd := B.dim i h hi
  unfold stepP
  rw [ph_num]
  cases k with
  | rests e => rw [e]
  | takesNew v e hc hp =>
    have hs := F.new i h hi v e hc
    have ex : h.ph = ⟨h.at_, 0, 0, 0, 0, 0, h.mark⟩ := by unfold Hand.ph; rw [e]; dsimp only; rw [hs]; dsimp only; rw [hc]
    have ex2 : ({ h with cell := s.vals.length + 1 } : Hand).ph = ⟨h.at_, 0, s.vals.length + 1, 0, 0, 0, h.mark⟩ := by unfold Hand.ph; dsimp only; rw [e]; dsimp only; rw [hs]
    rw [e, ex]
    dsimp only
    rw [if_pos rfl]
    unfold takeP
    rcases place_pick (r := r) (s := s) with ⟨_, q⟩ | ⟨c, j, q, _⟩
    · rw [q]
      dsimp only
      rw [show s.ps.nexts = s.links from rfl, ← len]
      unfold Mach.ps
      dsimp only
      rw [map_set, ex2]
    · rw [hp] at q
      cases q
  | takesFree v c e hc hp =>
    have hs := F.new i h hi v e hc
    have ex : h.ph = ⟨h.at_, 0, 0, 0, 0, 0, h.mark⟩ := by unfold Hand.ph; rw [e]; dsimp only; rw [hs]; dsimp only; rw [hc]
    have ex2 : ({ h with cell := c } : Hand).ph = ⟨h.at_, 0, c, 0, 0, 0, h.mark⟩ := by unfold Hand.ph; dsimp only; rw [e]; dsimp only; rw [hs]
    rw [e, ex]
    dsimp only
    rw [if_pos rfl]
    unfold takeP
    rcases place_pick (r := r) (s := s) with ⟨q, _⟩ | ⟨c2, j, q, q2, q3, q4⟩
    · rw [hp] at q
      cases q
    · rw [hp] at q
      have q := Option.some.inj q
      subst q
      rw [q2]
      dsimp only
      rw [show s.ps.free = s.free from rfl, q3, q4]
      unfold Mach.ps
      dsimp only
      rw [map_set, ex2]
  | readsPush v e hc hs =>
    have ex : h.ph = ⟨h.at_, 0, h.cell, 0, 0, 0, h.mark⟩ := by unfold Hand.ph; rw [e]; dsimp only; rw [hs]
    have ex2 : ({ h with seen := some (s.top, s.count) } : Hand).ph = ⟨h.at_, 1, h.cell, s.top, s.count, 0, h.mark⟩ := by
      unfold Hand.ph; dsimp only; rw [e]; dsimp only; rw [(bd hs).2]; rfl
    rw [e, ex]
    dsimp only
    rw [if_neg hc, if_pos rfl]
    unfold readP
    rw [if_neg (by rintro ⟨_, z⟩; cases z), put_ps, ex2]
    rfl
  | links v t k e hc hs hf =>
    have ex : h.ph = ⟨h.at_, 1, h.cell, t, k, 0, h.mark⟩ := by unfold Hand.ph; rw [e]; dsimp only; rw [hs, hf]; rfl
    have ex2 : ({ h with follow := some t } : Hand).ph = ⟨h.at_, 3, h.cell, t, k, 0, h.mark⟩ := by unfold Hand.ph; dsimp only; rw [e]; dsimp only; rw [hs]; rfl
    rw [e, ex]
    dsimp only
    rw [if_neg hc, if_neg (by decide), if_neg (by decide)]
    unfold linkP
    unfold Mach.ps
    dsimp only
    rw [map_set, ex2]
  | pushes v f e hc hs hf =>
    have ex : h.ph = ⟨h.at_, 3, h.cell, s.top, s.count, 0, h.mark⟩ := by unfold Hand.ph; rw [e]; dsimp only; rw [hs, hf]; rfl
    rw [e, ex]
    dsimp only
    rw [if_neg hc, if_neg (by decide), if_pos rfl]
    unfold exchP
    rw [if_neg (by rintro (z | z) <;> exact z rfl), if_pos rfl]
    unfold Mach.ps PSt.wtop PSt.done PSt.put
    dsimp only
    rw [map_set, did_ph]
    rfl
  | missPush v t k f e hc hs hf hn =>
    have ex : h.ph = ⟨h.at_, 3, h.cell, t, k, 0, h.mark⟩ := by unfold Hand.ph; rw [e]; dsimp only; rw [hs, hf]; rfl
    have ex2 : h.again.ph = ⟨h.at_, 0, h.cell, 0, 0, 0, h.mark⟩ := by unfold Hand.ph Hand.again; dsimp only; rw [e]
    rw [e, ex]
    dsimp only
    rw [if_neg hc, if_neg (by decide), if_pos rfl]
    unfold exchP
    rw [if_pos (by
      by_cases z : s.top = t
      · exact .inr fun q => hn ⟨z, q⟩
      · exact .inl z), put_ps, ex2]
    rfl
  | meets e hs ht =>
    have ex : h.ph = ⟨h.at_, 0, 0, 0, 0, 0, h.mark⟩ := by unfold Hand.ph; rw [e]; dsimp only; rw [hs]
    rw [e, ex]
    dsimp only
    rw [if_pos rfl]
    unfold readP
    rw [if_pos ⟨ht, rfl⟩]
    unfold Mach.ps PSt.done PSt.put
    dsimp only
    rw [map_set, did_ph]
  | readsPop e hs ht =>
    have ex : h.ph = ⟨h.at_, 0, 0, 0, 0, 0, h.mark⟩ := by unfold Hand.ph; rw [e]; dsimp only; rw [hs]
    rw [e, ex]
    dsimp only
    rw [if_pos rfl]
    unfold readP
    rw [if_neg (by rintro ⟨z, _⟩; exact ht z), put_ps]
    have ex2 : ({ h with seen := some (s.top, s.count) } : Hand).ph = ⟨h.at_, 1, 0, s.top, s.count, 0, h.mark⟩ := by
      unfold Hand.ph; dsimp only; rw [e]; dsimp only; rw [F.idle i h hi e hs, (bd hs).1, (bd hs).2]; rfl
    rw [ex2]
    rfl
  | lets t k e hs hc =>
    have ex : h.ph = ⟨h.at_, 4, 0, h.cell, 0, 0, h.mark⟩ := by unfold Hand.ph; rw [e]; dsimp only; rw [hs]; dsimp only; rw [if_pos hc]
    rw [e, ex]
    dsimp only
    rw [if_neg (by decide), if_neg (by decide), if_pos rfl]
    unfold letP Mach.ps PSt.done PSt.put
    dsimp only
    rw [map_set, did_ph]
  | marks t k e hs hc hm hl hk =>
    have hf : h.follow = none := Classical.byContradiction fun z => by
      have := F.fol i h hi e z hm
      rw [hl] at this
      cases this
    have ex : h.ph = ⟨h.at_, 1, 0, t, k, 0, h.mark⟩ := by unfold Hand.ph; rw [e]; dsimp only; rw [hs]; dsimp only; rw [hc, hf, hl]; rfl
    have ex2 : ({ h with mark := t } : Hand).ph = ⟨h.at_, 1, 0, t, k, 0, t⟩ := by unfold Hand.ph; dsimp only; rw [e]; dsimp only; rw [hs]; dsimp only; rw [hc, hf, hl]; rfl
    rw [e, ex]
    dsimp only
    rw [if_neg (by decide), if_neg (by decide), if_neg (by decide), if_pos ⟨rfl, hm⟩]
    unfold markP
    rw [if_pos hk, put_ps, ex2]
  | looks t k e hs hc hm hl hk ht =>
    have hf : h.follow = none := Classical.byContradiction fun z => by
      have := F.fol i h hi e z hm
      rw [hl] at this
      cases this
    have ex : h.ph = ⟨h.at_, 1, 0, t, k, 0, h.mark⟩ := by unfold Hand.ph; rw [e]; dsimp only; rw [hs]; dsimp only; rw [hc, hf, hl]; rfl
    have ex2 : ({ h with looked := true } : Hand).ph = ⟨h.at_, 2, 0, t, k, 0, h.mark⟩ := by unfold Hand.ph; dsimp only; rw [e]; dsimp only; rw [hs]; dsimp only; rw [hc, hf]; rfl
    rw [e, ex]
    dsimp only
    rw [if_neg (by decide), if_neg (by decide), if_neg (by decide), if_pos ⟨rfl, hm⟩]
    unfold markP
    rw [if_neg (by simpa using hk), if_neg (show ¬ (s.ps.top ≠ t) from fun q => q ht), put_ps, ex2]
  | looksNot t k e hs hc hm hl hk ht =>
    have hf : h.follow = none := Classical.byContradiction fun z => by
      have := F.fol i h hi e z hm
      rw [hl] at this
      cases this
    have ex : h.ph = ⟨h.at_, 1, 0, t, k, 0, h.mark⟩ := by unfold Hand.ph; rw [e]; dsimp only; rw [hs]; dsimp only; rw [hc, hf, hl]; rfl
    have ex2 : h.again.ph = ⟨h.at_, 0, 0, 0, 0, 0, h.mark⟩ := by unfold Hand.ph Hand.again; dsimp only; rw [e]
    rw [e, ex]
    dsimp only
    rw [if_neg (by decide), if_neg (by decide), if_neg (by decide), if_pos ⟨rfl, hm⟩]
    unfold markP
    rw [if_neg (by simpa using hk), if_pos (show s.ps.top ≠ t from ht), put_ps, ex2]
    rfl
  | follows t k e hs hc hm hf =>
    have ex2 : ({ h with follow := some (linkAt s.links t) } : Hand).ph = ⟨h.at_, 3, 0, t, k, linkAt s.links t, h.mark⟩ := by unfold Hand.ph; dsimp only; rw [e]; dsimp only; rw [hs]; dsimp only; rw [hc]; rfl
    rcases Bool.eq_false_or_eq_true h.looked with hl | hl
    ·
      have ex : h.ph = ⟨h.at_, 2, 0, t, k, 0, h.mark⟩ := by unfold Hand.ph; rw [e]; dsimp only; rw [hs]; dsimp only; rw [hc, hf, hl]; rfl
      rw [e, ex]
      dsimp only
      rw [if_neg (by decide), if_neg (by decide), if_neg (by decide), if_neg (by rintro ⟨z, _⟩; cases z)]
      unfold followP
      rw [put_ps, ex2]
      rfl
    ·
      have ex : h.ph = ⟨h.at_, 1, 0, t, k, 0, h.mark⟩ := by unfold Hand.ph; rw [e]; dsimp only; rw [hs]; dsimp only; rw [hc, hf, hl]; rfl
      rw [e, ex]
      dsimp only
      rw [if_neg (by decide), if_neg (by decide), if_neg (by decide), if_neg (by
        rintro ⟨_, z⟩
        have := hm z
        rw [hl] at this
        cases this)]
      unfold followP
      rw [put_ps, ex2]
      rfl
  | pops f e hs hc hm hf =>
    have t0 := B.seen i h hi e _ _ hs
    have ex : h.ph = ⟨h.at_, 3, 0, s.top, s.count, f, h.mark⟩ := by unfold Hand.ph; rw [e]; dsimp only; rw [hs]; dsimp only; rw [hc, hf]; rfl
    have ex2 : ({ h with cell := s.top } : Hand).ph = ⟨h.at_, 4, 0, s.top, 0, 0, h.mark⟩ := by unfold Hand.ph; dsimp only; rw [e]; dsimp only; rw [hs]; dsimp only; rw [if_pos t0]
    rw [e, ex]
    dsimp only
    rw [if_neg (by decide), if_pos rfl]
    unfold exchP
    rw [if_neg (by rintro (z | z) <;> exact z rfl), if_neg (by decide)]
    unfold Mach.ps PSt.wtop PSt.put
    dsimp only
    rw [map_set, ex2]
  | missPop t k f e hs hc hm hf hn =>
    have ex : h.ph = ⟨h.at_, 3, 0, t, k, f, h.mark⟩ := by unfold Hand.ph; rw [e]; dsimp only; rw [hs]; dsimp only; rw [hc, hf]; rfl
    have ex2 : h.again.ph = ⟨h.at_, 0, 0, 0, 0, 0, h.mark⟩ := by unfold Hand.ph Hand.again; dsimp only; rw [e]
    rw [e, ex]
    dsimp only
    rw [if_neg (by decide), if_pos rfl]
    unfold exchP
    rw [if_pos (by
      by_cases z : s.top = t
      · exact .inr fun q => hn ⟨z, q⟩
      · exact .inl z), put_ps, ex2]
    rfl
/-- what a hand must be -/
def FitH (r : Rule) (i : Nat) (h : Hand) : Prop := (h.deeds[h.at_]? = some .pop → h.follow ≠ none → mustMark r i = true → h.looked = true) ∧ (∀ v, h.deeds[h.at_]? = some (.push v) → h.cell = 0 → h.seen = none) ∧ (h.deeds[h.at_]? = some .pop → h.seen = none → h.cell = 0)
theorem Fitm.of (F : ∀ (i : Nat) (h : Hand), s.hands[i]? = some h → FitH r i h) : Fitm r s := ⟨fun i h hi => (F i h hi).1, fun i h hi => (F i h hi).2.1, fun i h hi => (F i h hi).2.2⟩
theorem Fitm.at_ (F : Fitm r s) (hi : s.hands[i]? = some h) : FitH r i h := ⟨F.fol i h hi, F.new i h hi, F.idle i h hi⟩
theorem Fitm.set {s' : Mach} {h' : Hand} (F : Fitm r s) (hi : s.hands[i]? = some h) (e : s'.hands = s.hands.set i h') (k : FitH r i h') : Fitm r s' := by
  refine .of fun j g hj => ?_
  rw [e] at hj
  rcases get_set_cases (lt_of_get hi) hj with ⟨rfl, rfl⟩ | ⟨n, hj⟩
  · exact k
  · exact F.at_ hj
theorem fit_new {h : Hand} (hs : h.seen = none) (hf : h.follow = none) (hc : h.cell = 0) : FitH r i h := ⟨fun _ z => absurd hf z, fun _ _ _ => hs, fun _ _ => hc⟩
theorem Fitm.go {st : Stp} {s' : Mach} (B : Base s) (F : Fitm r s) (hi : s.hands[i]? = some h) (G : Go r s i h st s') : Fitm r s' := by
  have bd := B.dim i h hi
  have push : ∀ {v : Int} {g : Hand}, h.deeds[h.at_]? = some (.push v) → g.deeds = h.deeds → g.at_ = h.at_ → g.cell ≠ 0 → FitH r i g := fun {v g} e e1 e2 hc => by
    refine ⟨fun z => ?_, fun _ _ z => absurd z hc, fun z => ?_⟩
    · rw [e1, e2, e] at z
      cases z
    · rw [e1, e2, e] at z
      cases z
  have pop : ∀ {g : Hand}, h.deeds[h.at_]? = some .pop → g.deeds = h.deeds → g.at_ = h.at_ → (g.follow ≠ none → mustMark r i = true → g.looked = true) → (g.seen = none → g.cell = 0) → FitH r i g := fun {g} e e1 e2 h1 h2 => by
    refine ⟨fun _ => h1, fun v z => ?_, fun _ => h2⟩
    rw [e1, e2, e] at z
    cases z
  cases G with
  | rests e => exact F
  | takesNew v e hc hp => exact F.set hi rfl (push e rfl rfl (Nat.succ_ne_zero _))
  | takesFree v c e hc hp => exact F.set hi rfl (push e rfl rfl (B.free c (pick_mem hp)))
  | readsPush v e hc hs => exact F.set hi rfl (push e rfl rfl hc)
  | links v t k e hc hs hf => exact F.set hi rfl (push e rfl rfl hc)
  | pushes v f e hc hs hf => exact F.set hi rfl (fit_new rfl rfl rfl)
  | missPush v t k f e hc hs hf hn => exact F.set hi rfl (push e rfl rfl hc)
  | meets e hs ht => exact F.set hi rfl (fit_new rfl rfl rfl)
  | readsPop e hs ht => exact F.set hi rfl (pop e rfl rfl (fun z => absurd (bd hs).2 z) (fun z => by cases z))
  | lets t k e hs hc => exact F.set hi rfl (fit_new rfl rfl rfl)
  | marks t k e hs hc hm hl hk => exact F.set hi rfl (pop e rfl rfl (F.fol i h hi e) (fun z => hc))
  | looks t k e hs hc hm hl hk ht => exact F.set hi rfl (pop e rfl rfl (fun _ _ => rfl) (fun z => hc))
  | looksNot t k e hs hc hm hl hk ht => exact F.set hi rfl (pop e rfl rfl (fun z => absurd rfl z) (fun z => hc))
  | follows t k e hs hc hm hf => exact F.set hi rfl (pop e rfl rfl (fun _ => hm) (fun z => hc))
  | pops f e hs hc hm hf => exact F.set hi rfl (pop e rfl rfl (fun _ => hm) (fun z => by rw [hs] at z; cases z))
  | missPop t k f e hs hc hm hf hn => exact F.set hi rfl (pop e rfl rfl (fun z => absurd rfl z) (fun z => hc))
theorem Fitm.turn (B : Base s) (F : Fitm r s) : Fitm r (turn r s i).2 := by
  unfold Sk.turn
  split
  · exact F
  · rename_i h e
    exact F.go B e (go_kind r s i h)
theorem Fitm.begun (xs : List Int) (ps : List (List Deed)) : Fitm r (Mach.begun xs ps) := by
  refine .of fun i h hi => ?_
  have : (ps.map Hand.new)[i]? = some h := hi
  rw [List.getElem?_map] at this
  cases e : ps[i]? with
  | none => rw [e] at this; cases this
  | some ds =>
    rw [e] at this
    rw [← Option.some.inj this]
    exact fit_new rfl rfl rfl
theorem begun_ps (xs : List Int) (ps : List (List Deed)) : (Mach.begun xs ps).ps = PSt.begun xs ps.length := by
  unfold Mach.ps Mach.begun PSt.begun
  dsimp only
  rw [List.map_map]
  congr 1
  rw [List.eq_replicate_iff]
  refine ⟨by rw [List.length_map], fun x hx => ?_⟩
  obtain ⟨ds, _, e⟩ := List.mem_map.mp hx
  rw [← e]
  show (Hand.new ds).ph = _
  unfold Hand.ph Hand.new PHand.ahead
  dsimp only
  repeat' split
  all_goals (first | rfl | simp_all)
end
end Sk


/-! The package's states as they lie on the heap. -/
namespace Sk
open PySem PySem.Spec PyProof.Rows L2
abbrev sCounts : Str := "counts"
abbrev sMarks : Str := "marks"
abbrev sKeeps : Str := "keeps"
/-- a rule as it is handed in, at t -/
def RuleAt (H : Hp) (t : Addr) : Rule → Prop
  | .counts m => H t = some (.tup [.str sCounts, .int (m : Int)])
  | .marks hs => ∃ u, H t = some (.tup [.str sMarks, .ref u]) ∧ H u = some (.tup (vN hs))
  | .keeps => H t = some (.tup [.str sKeeps])
def Rule.fit (many : Nat) : Rule → Prop
  | .counts m => 1 ≤ m ∧ m ≤ 15
  | .marks hs => hs.Pairwise (· < ·) ∧ ∀ h ∈ hs, h < many
  | .keeps => True
theorem RuleAt.same {H H' : Hp} {t : Addr} {r : Rule} (h : RuleAt H t r) (s : Same H H') : RuleAt H' t r := by
  cases r with
  | counts m => exact s _ _ h
  | keeps => exact s _ _ h
  | marks hs =>
    obtain ⟨u, h1, h2⟩ := h
    exact ⟨u, s _ _ h1, s _ _ h2⟩
theorem RuleAt.but {H H' : Hp} {t p : Addr} {r : Rule} {l : List V} (h : RuleAt H t r) (b : But p H H') (e : H p = some (.lst l)) : RuleAt H' t r := by
  have go : ∀ {a : Addr} {xs : List V}, H a = some (.tup xs) → H' a = some (.tup xs) := fun q => b _ _ (ne_of q e (by intro z; cases z)) q
  cases r with
  | counts m => exact go h
  | keeps => exact go h
  | marks hs =>
    obtain ⟨u, h1, h2⟩ := h
    exact ⟨u, go h1, go h2⟩
theorem Paired.mono2 {α β : Type} {R S : α → β → Prop} (k : ∀ a b, R a b → S a b) : ∀ {as : List α} {bs : List β}, Paired R as bs → Paired S as bs
  | _, _, .nil => .nil
  | _, _, .cons h hs => .cons (k _ _ h) (Paired.mono2 k hs)
theorem Paired.app {α β : Type} {R : α → β → Prop} : ∀ {as cs : List α} {bs ds : List β}, Paired R as bs → Paired R cs ds → Paired R (as ++ cs) (bs ++ ds)
  | _, _, _, _, .nil, h => h
  | _, _, _, _, .cons a b, h => .cons a (Paired.app b h)
theorem Paired.rev {α β : Type} {R : α → β → Prop} : ∀ {as : List α} {bs : List β}, Paired R as bs → Paired R as.reverse bs.reverse
  | _, _, .nil => .nil
  | _, _, .cons a b => by
    rw [List.reverse_cons, List.reverse_cons]
    exact Paired.app (Paired.rev b) (.cons a .nil)
/-- a hand's deeds in a list at l -/
def ProgAt (K : PySem.W.Frag) (H : Hp) (l : Addr) (ds : List Deed) : Prop := ∃ ts : List Addr, H l = some (.lst (ts.map V.ref)) ∧ Rows K H ts (ds.map Deed.row)
/-- programs in a list of lists at R -/
def Progs (K : PySem.W.Frag) (H : Hp) (R : Addr) (ps : List (List Deed)) : Prop := ∃ ls : List Addr, H R = some (.lst (ls.map V.ref)) ∧ Paired (ProgAt K H) ls ps
theorem ProgAt.same {K : PySem.W.Frag} {H H' : Hp} {l : Addr} {ds : List Deed} (h : ProgAt K H l ds) (s : Same H H') : ProgAt K H' l ds := by
  obtain ⟨ts, h1, h2⟩ := h
  exact ⟨ts, s _ _ h1, h2.mono fun t xs z => same_tup s z⟩
theorem refs_ne {K : PySem.W.Frag} {H : Hp} {p a l : Addr} {ns : List Int} {ts : List Addr} (d : Dice K H p a ns) (h : H l = some (.lst (ts.map V.ref))) : l ≠ p := fun q => by
  obtain ⟨i, m, c, e, _⟩ := d.at_
  rw [q, e] at h
  injection h with h
  injection h with h
  match ts, h with
  | [], h => cases h
  | [_], h => cases h
  | _ :: _ :: _, h =>
    injection h with h1 h2
    injection h2 with h3 h4
    cases h3
theorem ProgAt.drew {K : PySem.W.Frag} {H H' : Hp} {p a l : Addr} {ns : List Int} {ds : List Deed} (h : ProgAt K H l ds) (d : Dice K H p a ns) (b : But p H H') : ProgAt K H' l ds := by
  obtain ⟨ts, h1, h2⟩ := h
  obtain ⟨lp, elp⟩ := d.some
  exact ⟨ts, b _ _ (refs_ne d h1) h1, h2.mono fun t xs z => sqt_but b elp z⟩
theorem Progs.same {K : PySem.W.Frag} {H H' : Hp} {R : Addr} {ps : List (List Deed)} (h : Progs K H R ps) (s : Same H H') : Progs K H' R ps := by
  obtain ⟨ls, h1, h2⟩ := h
  exact ⟨ls, s _ _ h1, Paired.mono2 (fun _ _ z => z.same s) h2⟩
theorem Progs.drew {K : PySem.W.Frag} {H H' : Hp} {p a R : Addr} {ns : List Int} {ps : List (List Deed)} (h : Progs K H R ps) (d : Dice K H p a ns) (b : But p H H') : Progs K H' R ps := by
  obtain ⟨ls, h1, h2⟩ := h
  exact ⟨ls, b _ _ (refs_ne d h1) h1, Paired.mono2 (fun _ _ z => z.drew d b) h2⟩
theorem ProgAt.upd {K : PySem.W.Frag} {H : Hp} {l m : Addr} {ds : List Deed} {xs : List V} {o : HO} (h : ProgAt K H l ds) (e : H m = some (.lst xs)) (n : l ≠ m) : ProgAt K (upd H m o) l ds := by
  obtain ⟨ts, h1, h2⟩ := h
  exact ⟨ts, by rw [upd_ne n]; exact h1, h2.mono fun t xs z => sqt_upd e z⟩
/-- one deed more, ahead -/
theorem ProgAt.ahead {K : PySem.W.Frag} {H : Hp} {l t : Addr} {d : Deed} {ds : List Deed} (h : ProgAt K H l ds) (ht : SqT K H t (rowV d.row)) : ∃ ts : List Addr, H l = some (.lst (ts.map V.ref)) ∧ ts.length = ds.length ∧ ProgAt K (L2.upd H l (.lst (V.ref t :: ts.map V.ref))) l (d :: ds) := by
  obtain ⟨ts, h1, h2⟩ := h
  have hl := h2.len
  rw [List.length_map] at hl
  exact ⟨ts, h1, hl, t :: ts, upd_same, .cons (sqt_upd h1 ht) (h2.mono fun t xs z => sqt_upd h1 z)⟩
theorem inV_nat (c : Nat) : ∀ ms : List Nat, inV (.int (c : Int)) (vN ms) = ms.contains c
  | [] => rfl
  | m :: ms => by
    have ih := inV_nat c ms
    unfold inV at ih ⊢
    show (eqV (.int (m : Int)) (.int (c : Int)) || List.any (vN ms) fun y => eqV y (.int (c : Int))) = _
    rw [ih, List.contains_cons]
    congr 1
    show ((m : Int) == (c : Int)) = (c == m)
    by_cases q : m = c
    · subst q
      rw [beq_self_eq_true, beq_self_eq_true]
    · have : (m : Int) ≠ (c : Int) := by omega
      rw [beq_eq_false_iff_ne.mpr this, beq_eq_false_iff_ne.mpr (Ne.symm q)]
theorem flat_nat : ∀ ms : List Nat, (vN ms).all flatV = true
  | [] => rfl
  | m :: ms => by
    show (true && (vN ms).all flatV) = true
    rw [flat_nat ms]
    rfl
theorem vN_int (ns : List Nat) : vN ns = (ns.map fun n : Nat => (n : Int)).map V.int := by
  unfold vN
  rw [List.map_map]
  rfl
def Rule.word : Rule → Str
  | .counts _ => sCounts
  | .marks _ => sMarks
  | .keeps => sKeeps
theorem RuleAt.word {F : Hp} {t : Addr} {r : Rule} (h : RuleAt F t r) : ∃ rest, F t = some (.tup (.str r.word :: rest)) := by
  cases r with
  | keeps => exact ⟨_, h⟩
  | counts m => exact ⟨_, h⟩
  | marks hs =>
    obtain ⟨u, r1, r2⟩ := h
    exact ⟨_, r1⟩
theorem at_ref {xs : List Addr} {i : Nat} {a : Addr} (h : xs[i]? = some a) : atI (xs.map V.ref) (i : Int) = some (.ref a) := atI_nat (by rw [List.getElem?_map, h]; rfl)
def Rule.isCounts : Rule → Bool
  | .counts _ => true
  | _ => false
theorem word_counts (r : Rule) : decide (V.str r.word = V.str sCounts) = r.isCounts := by
  cases r with
  | counts m =>
    show decide (V.str sCounts = V.str sCounts) = true
    decide +kernel
  | marks hs =>
    show decide (V.str sMarks = V.str sCounts) = false
    decide +kernel
  | keeps =>
    show decide (V.str sKeeps = V.str sCounts) = false
    decide +kernel
def Stp.row : Stp → List V
  | .rests => [.str "rests"]
  | .takes c => [.str "takes", .int (c : Int)]
  | .reads c => [.str "reads", .int (c : Int)]
  | .ends a => [.str "ends", a]
  | .links c => [.str "links", .int (c : Int)]
  | .marks c => [.str "marks", .int (c : Int)]
  | .looks b => [.str "looks", .bl b]
  | .follows c => [.str "follows", .int (c : Int)]
  | .exchanges c => [.str "exchanges", .int (c : Int)]
  | .misses => [.str "misses"]
def Rule.isMarks : Rule → Bool
  | .marks _ => true
  | _ => false
theorem word_marks (r : Rule) : decide (V.str r.word = V.str sMarks) = r.isMarks := by
  cases r with
  | counts m =>
    show decide (V.str sCounts = V.str sMarks) = false
    decide +kernel
  | marks hs =>
    show decide (V.str sMarks = V.str sMarks) = true
    decide +kernel
  | keeps =>
    show decide (V.str sKeeps = V.str sMarks) = false
    decide +kernel
theorem at_val {vs : List Int} {c : Nat} (h1 : 1 ≤ c) (h2 : c ≤ vs.length) : atI (vs.map V.int) ((c : Int) - 1) = some (.int (valAt vs c)) := by
  have e : (c : Int) - 1 = ((c - 1 : Nat) : Int) := by omega
  rw [e]
  refine atI_nat ?_
  rw [List.getElem?_map, List.getElem?_eq_getElem (show c - 1 < vs.length by omega)]
  unfold valAt
  simp [List.getD, List.getElem?_eq_getElem (show c - 1 < vs.length by omega)]
theorem at_link {ls : List Nat} {c : Nat} (h1 : 1 ≤ c) (h2 : c ≤ ls.length) : atI (vN ls) ((c : Int) - 1) = some (.int (linkAt ls c : Int)) := by
  have e : (c : Int) - 1 = ((c - 1 : Nat) : Int) := by omega
  rw [e]
  refine atI_nat ?_
  rw [List.getElem?_map, List.getElem?_eq_getElem (show c - 1 < ls.length by omega)]
  unfold linkAt
  simp [List.getD, List.getElem?_eq_getElem (show c - 1 < ls.length by omega)]
theorem dec_nat (x y : Nat) : decide (V.int (x : Int) = V.int (y : Int)) = decide (x = y) := by
  by_cases e : x = y
  · rw [decide_eq_true e, decide_eq_true (by rw [e])]
  · rw [decide_eq_false e, decide_eq_false (fun z => e (by injection z with z; omega))]
/-- POP stands at p -/
structure TxPop (K : PySem.W.Frag) (mg : Str → Option Value) (p : Addr) : Prop where
  g : mg "POP" = some (.ref p)
  at_ : ∀ H, SqT K H p [.str sPop]
theorem pop_lay : SeqAt.shaped (.tuple [.str sPop]) = true := by decide +kernel
/-- a def of the module's top -/
structure DefAt (K : PySem.W.Frag) (mg : Str → Option Value) (x : Str) (st : Stmt) : Prop where
  ex : ∃ f fd, FnP K x x st f fd ∧ mg x = some (.ref f)
theorem cal_of {P : Program} {w : World} {K : PySem.W.Frag} {mg : Str → Option Value} {base : Heap} {k : Nat} {x : Str} {st : Stmt} {f : Addr} {fd : FuncData} {ps : List Str} {sp : Sp} (F : FnP K x x st f fd) (g : mg x = some (.ref f)) (b : Binds K fd ps []) (ok : FnOk P w K mg base CX0 k f fd ps sp) : C8.Cal P w K mg base k x sp [] :=
  ⟨f, fd, ps, [], ok, g, F.kp, b, .nil⟩
section
variable {K : PySem.W.Frag} {H : Hp} {a b : Addr} {xs ys : List V} {Q : VK}
theorem sl_take {k : Nat} (e : H a = some (.tup xs)) (hk : k ≤ xs.length) (q : ∀ b H', Same H H' → H' b = some (.tup (xs.take k)) → Q (.ref b) H') : rSlA K (.ref a) none (some (k : Int)) H Q := by
  refine ⟨a, xs, rfl, SqT.of e, fun h => ?_, fun h p np => ?_⟩
  · rw [HT.sIx_nat] at h
    have : k = xs.length := by omega
    exact q a H (.refl H) (by rw [this, List.take_length]; exact e)
  · refine q p _ (same_upd np) ?_
    rw [upd_same]
    unfold cutV
    rw [HT.sIx_nat, HT.sIx_none, List.drop_zero, Nat.sub_zero, Nat.min_eq_left hk]
theorem sl_drop {k : Nat} (e : H a = some (.tup xs)) (hk : k ≤ xs.length) (q : ∀ b H', Same H H' → H' b = some (.tup (xs.drop k)) → Q (.ref b) H') : rSlA K (.ref a) (some (k : Int)) none H Q := by
  refine ⟨a, xs, rfl, SqT.of e, fun h => ?_, fun h p np => ?_⟩
  · rw [HT.sIx_nat] at h
    have : k = 0 := by omega
    exact q a H (.refl H) (by rw [this, List.drop_zero]; exact e)
  · refine q p _ (same_upd np) ?_
    rw [upd_same]
    unfold cutV
    rw [HT.sIx_nat, HT.sIx_none, Nat.min_eq_left hk, List.take_of_length_le (by rw [List.length_drop]; omega)]
theorem cat_tup (e1 : H a = some (.tup xs)) (e2 : H b = some (.tup ys)) (hl : xs.length + ys.length ≤ sizeLine) (q : ∀ c H', Same H H' → H' c = some (.tup (xs ++ ys)) → Q (.ref c) H') : rCatA K (.ref a) (.ref b) H Q := by
  refine ⟨a, b, xs, ys, rfl, rfl, SqT.of e1, SqT.of e2, hl, fun h => ?_, fun h1 h2 => ?_, fun h1 h2 p np => ?_⟩
  · subst h
    exact q b H (.refl H) e2
  · subst h2
    exact q a H (.refl H) (by rw [List.append_nil]; exact e1)
  · exact q p _ (same_upd np) upd_same
end
/-- ints -/
abbrev NT (H : Hp) (a : Addr) (ns : List Nat) : Prop := H a = some (.tup (vN ns))
def PHand.list (x : PHand) : List Nat := [x.num, x.phase, x.cell, x.top, x.count, x.fol, x.mark]
def HandsAt (H : Hp) (a : Addr) (xs : List PHand) : Prop := ∃ as : List Addr, H a = some (.tup (as.map V.ref)) ∧ Paired (fun t x => NT H t (PHand.list x)) as xs
def StAt (H : Hp) (a : Addr) (S : PSt) : Prop :=
  ∃ n f v h, H a = some (.tup [.int (S.top : Int), .int (S.count : Int), .ref n, .ref f, .ref v, .ref h]) ∧ NT H n S.nexts ∧ NT H f S.free ∧ H v = some (.tup (S.vals.map V.int)) ∧ HandsAt H h S.hands
/-- tuples stay -/
def Tups (H H' : Hp) : Prop := ∀ a xs, H a = some (.tup xs) → H' a = some (.tup xs)
theorem Tups.of {H H' : Hp} (s : Same H H') : Tups H H' := fun _ _ e => s _ _ e
theorem Tups.refl {H : Hp} : Tups H H := fun _ _ e => e
theorem Tups.trans {H H1 H2 : Hp} (a : Tups H H1) (b : Tups H1 H2) : Tups H H2 := fun _ _ e => b _ _ (a _ _ e)
theorem Tups.upd {H : Hp} {p : Addr} {o u : HO} (e : H p = some o) (n : ∀ xs, o ≠ .tup xs) : Tups H (L2.upd H p u) := fun c xs q => by
  rw [upd_ne (ne_of q e (fun z => n xs z.symm))]
  exact q
theorem HandsAt.tups {H H' : Hp} {a : Addr} {xs : List PHand} (k : Tups H H') (h : HandsAt H a xs) : HandsAt H' a xs := by
  obtain ⟨as, h1, h2⟩ := h
  exact ⟨as, k _ _ h1, Paired.mono2 (fun t x z => k _ _ z) h2⟩
theorem StAt.tups {H H' : Hp} {a : Addr} {S : PSt} (k : Tups H H') (h : StAt H a S) : StAt H' a S := by
  obtain ⟨n, f, v, hh, h1, h2, h3, h4, h5⟩ := h
  exact ⟨n, f, v, hh, k _ _ h1, k _ _ h2, k _ _ h3, k _ _ h4, h5.tups k⟩
theorem StAt.same {H H' : Hp} {a : Addr} {S : PSt} (k : Same H H') (h : StAt H a S) : StAt H' a S := h.tups (.of k)
theorem paired_get {α β : Type} {R : α → β → Prop} : ∀ {as : List α} {bs : List β} {i : Nat} {b : β}, Paired R as bs → bs[i]? = some b → ∃ a, as[i]? = some a ∧ R a b
  | _, _, _, _, .nil, e => by simp at e
  | _, _, 0, _, .cons (a := a) h hs, e => by
    have e := Option.some.inj (show some _ = some _ from e)
    exact ⟨a, rfl, e ▸ h⟩
  | _, _, i + 1, _, .cons h hs, e => by
    obtain ⟨a, h1, h2⟩ := paired_get (i := i) hs (by simpa using e)
    exact ⟨a, by simpa using h1, h2⟩
theorem paired_set {α β : Type} {R : α → β → Prop} {a : α} {b : β} (r : R a b) : ∀ {as : List α} {bs : List β} {i : Nat}, Paired R as bs → Paired R (as.set i a) (bs.set i b)
  | _, _, _, .nil => .nil
  | _, _, 0, .cons h hs => .cons r hs
  | _, _, i + 1, .cons h hs => .cons h (paired_set r hs)
theorem HandsAt.get {H : Hp} {a : Addr} {xs : List PHand} {i : Nat} {x : PHand} (h : HandsAt H a xs) (e : xs[i]? = some x) : ∃ (as : List Addr) (t : Addr), H a = some (.tup (as.map V.ref)) ∧ as[i]? = some t ∧ NT H t x.list := by
  obtain ⟨as, h1, h2⟩ := h
  obtain ⟨t, h3, h4⟩ := paired_get h2 e
  exact ⟨as, t, h1, h3, h4⟩
theorem paired_len {α β : Type} {R : α → β → Prop} : ∀ {as : List α} {bs : List β}, Paired R as bs → as.length = bs.length
  | _, _, .nil => rfl
  | _, _, .cons _ h => congrArg Nat.succ (paired_len h)
/-- told and the state behind it, in a pair at t -/
def OutAt (H : Hp) (t : Addr) (o : Stp × PSt) : Prop := ∃ u b, H t = some (.tup [.ref u, .ref b]) ∧ H u = some (.tup o.1.row) ∧ StAt H b o.2
/-- the sizes of a state are small -/
structure Few (S : PSt) : Prop where
  n : S.nexts.length ≤ 100000
  f : S.free.length ≤ 100000
  v : S.vals.length ≤ 100000
  h : S.hands.length ≤ 1000
section
variable {K : PySem.W.Frag} {H : Hp} {a t u b : Addr} {xs : List V} {v : V} {Q : VK}
theorem ixT {i : Int} (k : Nat) (hi : i = (k : Int)) (e : H a = some (.tup xs)) (z : xs[k]? = some v) (q : Q v H) : rIxT K (.ref a) (.int i) H Q := ⟨a, xs, i, v, rfl, rfl, SqT.of e, by rw [hi]; exact atI_nat z, q⟩
theorem map_ref {as : List Addr} {i : Nat} (e : as[i]? = some t) : (as.map V.ref)[i]? = some (.ref t) := by rw [List.getElem?_map, e]; rfl
theorem out_mk {o : Stp × PSt} (nt : H t = none) (eu : H u = some (.tup o.1.row)) (eb : StAt H b o.2) : OutAt (upd H t (.tup [.ref u, .ref b])) t o := ⟨u, b, upd_same, (same_upd nt) _ _ eu, eb.same (same_upd nt)⟩
theorem OutAt.same {H' : Hp} {o : Stp × PSt} (k : Same H H') (h : OutAt H t o) : OutAt H' t o := by
  obtain ⟨u, b, h1, h2, h3⟩ := h
  exact ⟨u, b, k _ _ h1, k _ _ h2, h3.same k⟩
theorem StAt.hand {S : PSt} {i : Nat} {x : PHand} (h : StAt H a S) (e : S.hands[i]? = some x) : ∃ n f v hh as t, H a = some (.tup [.int (S.top : Int), .int (S.count : Int), .ref n, .ref f, .ref v, .ref hh]) ∧ NT H n S.nexts ∧ NT H f S.free ∧ H v = some (.tup (S.vals.map V.int)) ∧
    H hh = some (.tup (as.map V.ref)) ∧ Paired (fun t x => NT H t (PHand.list x)) as S.hands ∧ as[i]? = some t ∧ NT H t x.list := by
  obtain ⟨n, f, v, hh, e0, en, ef, ev, as, eh, pr⟩ := h
  obtain ⟨t, et, ex⟩ := paired_get pr e
  exact ⟨n, f, v, hh, as, t, e0, en, ef, ev, eh, pr, et, ex⟩
theorem eqN {x : Nat} {y : Int} (k : Nat) (hy : y = (k : Int)) : decide (V.int (x : Int) = V.int y) = decide (x = k) := by
  rw [hy]
  exact dec_nat x k
theorem neN {x : Nat} {y : Int} (k : Nat) (hy : y = (k : Int)) : (!decide (V.int (x : Int) = V.int y)) = decide (x ≠ k) := by
  rw [eqN k hy]
  by_cases q : x = k <;> simp [q]
theorem ifEqN {x : Nat} {y : Int} {A B : Prop} (k : Nat) (hy : y = (k : Int)) (h1 : x = k → A) (h2 : x ≠ k → B) : if decide (V.int (x : Int) = V.int y) = true then A else B := by
  rw [eqN k hy]
  by_cases q : x = k
  · rw [decide_eq_true q, if_pos rfl]
    exact h1 q
  · rw [decide_eq_false q, if_neg (by decide)]
    exact h2 q
theorem ifNeN {x : Nat} {y : Int} {A B : Prop} (k : Nat) (hy : y = (k : Int)) (h1 : x ≠ k → A) (h2 : x = k → B) : if (!decide (V.int (x : Int) = V.int y)) = true then A else B := by
  rw [eqN k hy]
  by_cases q : x = k
  · rw [decide_eq_true q, if_neg (by decide)]
    exact h2 q
  · rw [decide_eq_false q, if_pos (by decide)]
    exact h1 q
theorem pred_nat {c : Nat} (h : 1 ≤ c) : V.int ((c : Int) - 1) = V.int ((c - 1 : Nat) : Int) := by
  congr 1
  omega
theorem vN_set (l : List Nat) (k m : Nat) : (vN l).set k (.int (m : Int)) = vN (l.set k m) := by
  unfold vN
  rw [List.map_set]
theorem ifCounts {r : Rule} {A B : Prop} (h1 : ∀ m, r = .counts m → A) (h2 : (∀ m, r ≠ .counts m) → B) : if decide (V.str r.word = V.str sCounts) = true then A else B := by
  rw [word_counts]
  cases r with
  | counts m => exact h1 m rfl
  | marks hs => exact h2 (fun m z => by cases z)
  | keeps => exact h2 (fun m z => by cases z)
theorem ifMarks {r : Rule} {A B : Prop} (h1 : ∀ hs, r = .marks hs → A) (h2 : (∀ hs, r ≠ .marks hs) → B) : if decide (V.str r.word = V.str sMarks) = true then A else B := by
  rw [word_marks]
  cases r with
  | counts m => exact h2 (fun m z => by cases z)
  | marks hs => exact h1 hs rfl
  | keeps => exact h2 (fun m z => by cases z)
def Rule.isKeeps : Rule → Bool
  | .keeps => true
  | _ => false
theorem word_keeps (r : Rule) : decide (V.str r.word = V.str sKeeps) = r.isKeeps := by
  cases r with
  | counts m =>
    show decide (V.str sCounts = V.str sKeeps) = false
    decide +kernel
  | marks hs =>
    show decide (V.str sMarks = V.str sKeeps) = false
    decide +kernel
  | keeps =>
    show decide (V.str sKeeps = V.str sKeeps) = true
    decide +kernel
theorem ifKeeps {r : Rule} {A B : Prop} (h1 : r = .keeps → A) (h2 : r ≠ .keeps → B) : if decide (V.str r.word = V.str sKeeps) = true then A else B := by
  rw [word_keeps]
  cases r with
  | counts m => exact h2 (fun z => by cases z)
  | marks hs => exact h2 (fun z => by cases z)
  | keeps => exact h1 rfl
theorem ifNotIn {c : Nat} {ms : List Nat} {A B : Prop} (h1 : ms.contains c = false → A) (h2 : ms.contains c = true → B) : if (if true = true then !inV (.int (c : Int)) (vN ms) else inV (.int (c : Int)) (vN ms)) = true then A else B := by
  rw [if_pos rfl, inV_nat]
  cases q : ms.contains c with
  | true => exact h2 q
  | false => exact h1 q
theorem ifIn {c : Nat} {ms : List Nat} {A B : Prop} (h1 : ms.contains c = true → A) (h2 : ms.contains c = false → B) : if (if false = true then !inV (.int (c : Int)) (vN ms) else inV (.int (c : Int)) (vN ms)) = true then A else B := by
  rw [show (if false = true then !inV (.int (c : Int)) (vN ms) else inV (.int (c : Int)) (vN ms)) = inV (.int (c : Int)) (vN ms) from rfl, inV_nat]
  cases q : ms.contains c with
  | true => exact h1 q
  | false => exact h2 q
theorem place_some {r : Rule} {S : PSt} {i : Nat} (hk : r ≠ .keeps) (hi : i < S.free.length) (hn : (S.hands.map PHand.mark).contains S.free[i] = false) (before : ∀ j, j < i → ∀ c, S.free[j]? = some c → (S.hands.map PHand.mark).contains c = true) : placeP r S = some i := by
  have go : (S.free.findIdx? fun c => !((S.hands.map PHand.mark).contains c)) = some i := by
    rw [List.findIdx?_eq_some_iff_getElem]
    refine ⟨hi, by rw [hn]; rfl, fun j hj => ?_⟩
    rw [before j hj _ (List.getElem?_eq_getElem (by omega))]
    decide
  cases r with
  | keeps => exact absurd rfl hk
  | counts m => exact go
  | marks hs => exact go
theorem place_none {r : Rule} {S : PSt} (before : ∀ j, j < S.free.length → ∀ c, S.free[j]? = some c → (S.hands.map PHand.mark).contains c = true) : placeP r S = none := by
  have go : (S.free.findIdx? fun c => !((S.hands.map PHand.mark).contains c)) = none := by
    rw [List.findIdx?_eq_none_iff]
    intro x hx
    obtain ⟨j, hj, e⟩ := List.mem_iff_getElem.mp hx
    rw [before j hj x (by rw [List.getElem?_eq_getElem hj, e])]
    rfl
  cases r with
  | keeps => rfl
  | counts m => exact go
  | marks hs => exact go
end
end Sk
namespace Sk
open PySem PySem.Spec PyProof.Rows L2
/-! ### what a step tells, as data -/
def Stp.word : Stp → Str
  | .rests => "rests"
  | .takes _ => "takes"
  | .reads _ => "reads"
  | .ends _ => "ends"
  | .links _ => "links"
  | .marks _ => "marks"
  | .looks _ => "looks"
  | .follows _ => "follows"
  | .exchanges _ => "exchanges"
  | .misses => "misses"
def Stp.rest : Stp → List V
  | .takes c => [.int (c : Int)]
  | .reads c => [.int (c : Int)]
  | .ends a => [a]
  | .links c => [.int (c : Int)]
  | .marks c => [.int (c : Int)]
  | .looks b => [.bl b]
  | .follows c => [.int (c : Int)]
  | .exchanges c => [.int (c : Int)]
  | _ => []
theorem row_cons (st : Stp) : st.row = .str st.word :: st.rest := by cases st <;> rfl
def Stp.restD : Stp → List PyData
  | .takes c => [.int (c : Int)]
  | .reads c => [.int (c : Int)]
  | .ends a => [ansD a]
  | .links c => [.int (c : Int)]
  | .marks c => [.int (c : Int)]
  | .looks b => [.bool b]
  | .follows c => [.int (c : Int)]
  | .exchanges c => [.int (c : Int)]
  | _ => []
def Stp.dat (st : Stp) : PyData := .tuple (.str st.word :: st.restD)
/-- its answer is one -/
def Stp.Ok : Stp → Prop
  | .ends a => IsAns a
  | _ => True
theorem stp_dp {K : PySem.W.Frag} {H : Hp} {u : Addr} {st : Stp} (ok : st.Ok) (e : SqT K H u st.row) : Dp K H (.ref u) st.dat := by
  refine .tup e ?_
  rw [row_cons]
  refine .cons (.str _) ?_
  cases st with
  | ends a => exact .cons (ans_dp ok) .nil
  | rests => exact .nil
  | misses => exact .nil
  | looks b => exact .cons (.bl _) .nil
  | takes c => exact .cons (.int _) .nil
  | reads c => exact .cons (.int _) .nil
  | links c => exact .cons (.int _) .nil
  | marks c => exact .cons (.int _) .nil
  | follows c => exact .cons (.int _) .nil
  | exchanges c => exact .cons (.int _) .nil
theorem shape1 {s : Str} (h : PyData.canLay0 (.str s) = true) : SeqAt.shaped (.tuple [.str s]) = true := by
  simp [SeqAt.shaped, PyData.canLay0, PyData.canLayAll0, PyData.depth, PyData.depthAll] at h ⊢
  exact h
theorem shape2 {s : Str} {d : PyData} (h : PyData.canLay0 (.str s) = true) (hd : PyData.canLay0 d = true) (dd : PyData.depth d = 0) : SeqAt.shaped (.tuple [.str s, d]) = true := by
  unfold SeqAt.shaped at *
  simp [PyData.canLay0, PyData.canLayAll0, PyData.depth, PyData.depthAll, dd] at h hd ⊢
  exact ⟨h, hd⟩
theorem ans_lay {a : V} (h : IsAns a) : PyData.canLay0 (ansD a) = true ∧ PyData.depth (ansD a) = 0 := by
  rcases h with rfl | rfl | ⟨i, rfl⟩
  · exact ⟨by decide +kernel, by decide +kernel⟩
  · exact ⟨by decide +kernel, by decide +kernel⟩
  · exact ⟨rfl, rfl⟩
theorem word_lay (st : Stp) : PyData.canLay0 (.str st.word) = true := by
  cases st with
  | rests =>
    show PyData.canLay0 (.str "rests") = true
    decide +kernel
  | takes _ =>
    show PyData.canLay0 (.str "takes") = true
    decide +kernel
  | reads _ =>
    show PyData.canLay0 (.str "reads") = true
    decide +kernel
  | ends _ =>
    show PyData.canLay0 (.str "ends") = true
    decide +kernel
  | links _ =>
    show PyData.canLay0 (.str "links") = true
    decide +kernel
  | marks _ =>
    show PyData.canLay0 (.str "marks") = true
    decide +kernel
  | looks _ =>
    show PyData.canLay0 (.str "looks") = true
    decide +kernel
  | follows _ =>
    show PyData.canLay0 (.str "follows") = true
    decide +kernel
  | exchanges _ =>
    show PyData.canLay0 (.str "exchanges") = true
    decide +kernel
  | misses =>
    show PyData.canLay0 (.str "misses") = true
    decide +kernel
theorem stp_lay {st : Stp} (ok : st.Ok) : SeqAt.shaped st.dat = true := by
  have h := word_lay st
  unfold Stp.dat
  cases st with
  | ends a => exact shape2 h (ans_lay ok).1 (ans_lay ok).2
  | rests => exact shape1 h
  | misses => exact shape1 h
  | looks b => exact shape2 h rfl rfl
  | takes c => exact shape2 h rfl rfl
  | reads c => exact shape2 h rfl rfl
  | links c => exact shape2 h rfl rfl
  | marks c => exact shape2 h rfl rfl
  | follows c => exact shape2 h rfl rfl
  | exchanges c => exact shape2 h rfl rfl
def Stp.isEx : Stp → Bool
  | .exchanges _ => true
  | _ => false
theorem word_ex (st : Stp) : decide (V.str st.word = V.str "exchanges") = st.isEx := by
  cases st with
  | rests =>
    show decide (V.str "rests" = V.str "exchanges") = false
    decide +kernel
  | takes _ =>
    show decide (V.str "takes" = V.str "exchanges") = false
    decide +kernel
  | reads _ =>
    show decide (V.str "reads" = V.str "exchanges") = false
    decide +kernel
  | ends _ =>
    show decide (V.str "ends" = V.str "exchanges") = false
    decide +kernel
  | links _ =>
    show decide (V.str "links" = V.str "exchanges") = false
    decide +kernel
  | marks _ =>
    show decide (V.str "marks" = V.str "exchanges") = false
    decide +kernel
  | looks _ =>
    show decide (V.str "looks" = V.str "exchanges") = false
    decide +kernel
  | follows _ =>
    show decide (V.str "follows" = V.str "exchanges") = false
    decide +kernel
  | exchanges _ =>
    show decide (V.str "exchanges" = V.str "exchanges") = true
    decide +kernel
  | misses =>
    show decide (V.str "misses" = V.str "exchanges") = false
    decide +kernel
def Stp.isEnd : Stp → Bool
  | .ends _ => true
  | _ => false
theorem word_end (st : Stp) : decide (V.str st.word = V.str "ends") = st.isEnd := by
  cases st with
  | rests =>
    show decide (V.str "rests" = V.str "ends") = false
    decide +kernel
  | takes _ =>
    show decide (V.str "takes" = V.str "ends") = false
    decide +kernel
  | reads _ =>
    show decide (V.str "reads" = V.str "ends") = false
    decide +kernel
  | ends _ =>
    show decide (V.str "ends" = V.str "ends") = true
    decide +kernel
  | links _ =>
    show decide (V.str "links" = V.str "ends") = false
    decide +kernel
  | marks _ =>
    show decide (V.str "marks" = V.str "ends") = false
    decide +kernel
  | looks _ =>
    show decide (V.str "looks" = V.str "ends") = false
    decide +kernel
  | follows _ =>
    show decide (V.str "follows" = V.str "ends") = false
    decide +kernel
  | exchanges _ =>
    show decide (V.str "exchanges" = V.str "ends") = false
    decide +kernel
  | misses =>
    show decide (V.str "misses" = V.str "ends") = false
    decide +kernel
def Stp.isDone : Stp → Bool
  | .ends (.str _) => true
  | _ => false
def Stp.isNone : Stp → Bool
  | .ends .non => true
  | _ => false
/-- the deed is decided -/
def Stp.dec (st : Stp) : Bool := st.isEx || (st.isDone || st.isNone)
theorem eqv_two (w w2 : Str) (l m : List PyData) : PyData.eqv (.tuple (.str w :: l)) (.tuple (.str w2 :: m)) = (w == w2 && PyData.eqvAll l m) := by simp [PyData.eqv, PyData.eqvAll]
theorem eqv_done {st : Stp} (ok : st.Ok) : PyData.eqv st.dat (.tuple [.str "ends", .str "done"]) = st.isDone := by
  unfold Stp.dat
  rw [eqv_two]
  cases st with
  | rests =>
    rw [show ((Stp.word (.rests)) == ("ends" : Str)) = false from (by decide +kernel : ((("rests" : Str)) == ("ends" : Str)) = false), Bool.false_and]
    rfl
  | takes c =>
    rw [show ((Stp.word (.takes c)) == ("ends" : Str)) = false from (by decide +kernel : ((("takes" : Str)) == ("ends" : Str)) = false), Bool.false_and]
    rfl
  | reads c =>
    rw [show ((Stp.word (.reads c)) == ("ends" : Str)) = false from (by decide +kernel : ((("reads" : Str)) == ("ends" : Str)) = false), Bool.false_and]
    rfl
  | ends a =>
    rw [show ((Stp.word (.ends a)) == ("ends" : Str)) = true from (by decide +kernel : ((("ends" : Str)) == ("ends" : Str)) = true), Bool.true_and]
    rcases ok with rfl | rfl | ⟨i, rfl⟩
    · decide +kernel
    · decide +kernel
    · simp [Stp.restD, ansD, PyData.eqvAll, PyData.eqv, Stp.isDone]
  | links c =>
    rw [show ((Stp.word (.links c)) == ("ends" : Str)) = false from (by decide +kernel : ((("links" : Str)) == ("ends" : Str)) = false), Bool.false_and]
    rfl
  | marks c =>
    rw [show ((Stp.word (.marks c)) == ("ends" : Str)) = false from (by decide +kernel : ((("marks" : Str)) == ("ends" : Str)) = false), Bool.false_and]
    rfl
  | looks c =>
    rw [show ((Stp.word (.looks c)) == ("ends" : Str)) = false from (by decide +kernel : ((("looks" : Str)) == ("ends" : Str)) = false), Bool.false_and]
    rfl
  | follows c =>
    rw [show ((Stp.word (.follows c)) == ("ends" : Str)) = false from (by decide +kernel : ((("follows" : Str)) == ("ends" : Str)) = false), Bool.false_and]
    rfl
  | exchanges c =>
    rw [show ((Stp.word (.exchanges c)) == ("ends" : Str)) = false from (by decide +kernel : ((("exchanges" : Str)) == ("ends" : Str)) = false), Bool.false_and]
    rfl
  | misses =>
    rw [show ((Stp.word (.misses)) == ("ends" : Str)) = false from (by decide +kernel : ((("misses" : Str)) == ("ends" : Str)) = false), Bool.false_and]
    rfl
theorem eqv_none {st : Stp} (ok : st.Ok) : PyData.eqv st.dat (.tuple [.str "ends", .none]) = st.isNone := by
  unfold Stp.dat
  rw [eqv_two]
  cases st with
  | rests =>
    rw [show ((Stp.word (.rests)) == ("ends" : Str)) = false from (by decide +kernel : ((("rests" : Str)) == ("ends" : Str)) = false), Bool.false_and]
    rfl
  | takes c =>
    rw [show ((Stp.word (.takes c)) == ("ends" : Str)) = false from (by decide +kernel : ((("takes" : Str)) == ("ends" : Str)) = false), Bool.false_and]
    rfl
  | reads c =>
    rw [show ((Stp.word (.reads c)) == ("ends" : Str)) = false from (by decide +kernel : ((("reads" : Str)) == ("ends" : Str)) = false), Bool.false_and]
    rfl
  | ends a =>
    rw [show ((Stp.word (.ends a)) == ("ends" : Str)) = true from (by decide +kernel : ((("ends" : Str)) == ("ends" : Str)) = true), Bool.true_and]
    rcases ok with rfl | rfl | ⟨i, rfl⟩
    · decide +kernel
    · decide +kernel
    · simp [Stp.restD, ansD, PyData.eqvAll, PyData.eqv, Stp.isNone]
  | links c =>
    rw [show ((Stp.word (.links c)) == ("ends" : Str)) = false from (by decide +kernel : ((("links" : Str)) == ("ends" : Str)) = false), Bool.false_and]
    rfl
  | marks c =>
    rw [show ((Stp.word (.marks c)) == ("ends" : Str)) = false from (by decide +kernel : ((("marks" : Str)) == ("ends" : Str)) = false), Bool.false_and]
    rfl
  | looks c =>
    rw [show ((Stp.word (.looks c)) == ("ends" : Str)) = false from (by decide +kernel : ((("looks" : Str)) == ("ends" : Str)) = false), Bool.false_and]
    rfl
  | follows c =>
    rw [show ((Stp.word (.follows c)) == ("ends" : Str)) = false from (by decide +kernel : ((("follows" : Str)) == ("ends" : Str)) = false), Bool.false_and]
    rfl
  | exchanges c =>
    rw [show ((Stp.word (.exchanges c)) == ("ends" : Str)) = false from (by decide +kernel : ((("exchanges" : Str)) == ("ends" : Str)) = false), Bool.false_and]
    rfl
  | misses =>
    rw [show ((Stp.word (.misses)) == ("ends" : Str)) = false from (by decide +kernel : ((("misses" : Str)) == ("ends" : Str)) = false), Bool.false_and]
    rfl
end Sk
namespace Sk
open PySem PySem.Spec PyProof.Rows L2
/-! ### a rule as data -/
def Rule.dat : Rule → PyData
  | .counts m => .tuple [.str sCounts, .int (m : Int)]
  | .marks hs => .tuple [.str sMarks, .tuple (hs.map fun n : Nat => .int (n : Int))]
  | .keeps => .tuple [.str sKeeps]
theorem dpAll_nats {K : PySem.W.Frag} {H : Hp} : ∀ ns : List Nat, DpAll K H (vN ns) (ns.map fun n : Nat => PyData.int (n : Int))
  | [] => .nil
  | _ :: ns => .cons (.int _) (dpAll_nats ns)
theorem rule_dp {K : PySem.W.Frag} {H : Hp} {t : Addr} {r : Rule} (h : RuleAt H t r) : Dp K H (.ref t) r.dat := by
  cases r with
  | counts m => exact .tup (SqT.of h) (.cons (.str _) (.cons (.int _) .nil))
  | keeps => exact .tup (SqT.of h) (.cons (.str _) .nil)
  | marks hs =>
    obtain ⟨u, h1, h2⟩ := h
    exact .tup (SqT.of h1) (.cons (.str _) (.cons (.tup (SqT.of h2) (dpAll_nats hs)) .nil))
theorem flat_lay : ∀ ns : List Nat, PyData.canLayAll0 (ns.map fun n : Nat => PyData.int (n : Int)) = true ∧ PyData.depthAll (ns.map fun n : Nat => PyData.int (n : Int)) = 0
  | [] => ⟨rfl, rfl⟩
  | n :: ns => by
    obtain ⟨h1, h2⟩ := flat_lay ns
    refine ⟨?_, ?_⟩
    · show (PyData.canLay0 (.int (n : Int)) && PyData.canLayAll0 _) = true
      rw [h1]
      rfl
    · show max (PyData.depth (.int (n : Int))) (PyData.depthAll _) = 0
      rw [h2]
      rfl
theorem shape_of {d : PyData} (h : d.canLay0 = true) (l : d.depth ≤ 64) : SeqAt.shaped d = true := by
  unfold SeqAt.shaped
  rw [h, decide_eq_true l]
  rfl
theorem rule_lay (r : Rule) : SeqAt.shaped r.dat = true := by
  cases r with
  | counts m => exact shape2 (by decide +kernel) rfl rfl
  | keeps => exact shape1 (by decide +kernel)
  | marks hs =>
    obtain ⟨h1, h2⟩ := flat_lay hs
    refine shape_of ?_ ?_
    · show (PyData.canLay0 (.str sMarks) && (PyData.canLayAll0 (hs.map fun n : Nat => PyData.int (n : Int)) && true)) = true
      rw [h1]
      decide +kernel
    · show max (PyData.depth (.str sMarks)) (max (PyData.depthAll (hs.map fun n : Nat => PyData.int (n : Int)) + 1) 0) + 1 ≤ 64
      rw [h2]
      decide
theorem rule_eqv (r : Rule) : PyData.eqv r.dat (.tuple [.str sKeeps]) = r.isKeeps := by
  cases r with
  | counts m =>
    show PyData.eqv (.tuple (.str sCounts :: _)) _ = false
    rw [eqv_two, show (sCounts == sKeeps) = false by decide +kernel, Bool.false_and]
  | keeps =>
    show PyData.eqv (.tuple (.str sKeeps :: _)) _ = true
    decide +kernel
  | marks hs =>
    show PyData.eqv (.tuple (.str sMarks :: _)) _ = false
    rw [eqv_two, show (sMarks == sKeeps) = false by decide +kernel, Bool.false_and]
end Sk


namespace Sk
open PySem PySem.Spec PyProof.Rows L2
section
variable {P : Program} {w : World} {K : PySem.W.Frag} {mg : Str → Option Value} {base : Heap} {f : Addr} {fd : FuncData}
theorem scDice : FnScope ["_law_script", "_law_mixed", "_law_cell"] ["_law_script"] (defScope sDice) := ⟨rfl, rfl, rfl, by decide +kernel, rfl, by decide +kernel, by decide +kernel⟩
theorem scNext : FnScope ["_law_dice_here", "_law_many", "_law_found", "_law_cell"] ["_law_dice_here", "_law_many"] (defScope sNext) := ⟨rfl, rfl, rfl, by decide +kernel, rfl, by decide +kernel, by decide +kernel⟩

theorem ok_dice (F : FnP K "_law_dice" "_law_dice" sDice f fd) (mL : mg "len" = none) (mI : mg "int" = none) : FnOk P w K mg base CX0 1 f fd ["_law_script"] (spDice K) := by
  refine fok F scDice (fun vs H Q E h => ?_) (fun cdv A outer s H vs Q E hr h => ?_)
  · obtain ⟨a, ns, rfl, _⟩ := h
    rfl
  · obtain ⟨a, ns, rfl, hS, k⟩ := h
    refine ⟨_, pss_cons (ps_set (i := 1) scDice.nd rfl (.inl rfl) pe_int)
      (pss_cons (ps_for PassesOwn.never rfl (pi_list (pv 0)) (pg_name (i := 2) scDice.nd rfl (.inl rfl))
        (pss_one (ps_set (i := 1) scDice.nd rfl (.inl rfl) (pe_op op_mod (pe_op op_add (pe_op op_add (pe_op op_mul (pv 1) pe_int) (pe_op op_mul (pe_op op_mod (pv 2) pe_int) pe_int)) pe_int) pe_int))))
      (pss_one (ps_ret (pe_lst (pa_cons (pv 0) (pa_cons pe_int (pa_cons (pe_op op_mul (pv 1) (pe_callTy call_int1 (by rfl) mI (by decide +kernel) (pa_cons (pe_cmpR op_gt (pe_callB call_len_seq (by rfl) mL PySem.boot_len (pa_cons (pv 0) pa_nil)) pe_int (nomark _)) pa_nil))) (pa_cons pe_int pa_nil)))))))), ?_⟩
    refine ⟨_, rfl, a, rfl, ⟨_, hS⟩, for_list (K := K) (a := a) (xs := ns.map V.int) (fun i σ H' => H' = H ∧ ∃ (m : Int) (v : Option V), σ = [some (.ref a), some (.int m), v] ∧ 0 ≤ m ∧ m < 2147483647)
      ⟨rfl, 0, none, rfl, by omega, by omega⟩ (fun i σ H' _ ⟨e, _⟩ => by rw [e]; exact hS) ?_ ?_⟩
    · rintro i y σ H' hi ⟨rfl, m, v, rfl, h0, h1⟩
      obtain ⟨u, rfl⟩ : ∃ u, y = V.int u := by
        rw [List.getElem?_map] at hi
        cases e : ns[i]? with
        | none => rw [e] at hi; cases hi
        | some u => rw [e] at hi; exact ⟨u, (Option.some.inj hi).symm⟩
      refine ⟨_, rfl, _, _, rfl, rfl, .inl ⟨by omega, by omega⟩, _, rfl, _, _, rfl, rfl, (by show (0 : Int) < 2147483647; decide), _, _, rfl, rfl, .inr ⟨by decide, by decide⟩, _, _, rfl, rfl, _, _, rfl, rfl, _, _, rfl, rfl, (by show (0 : Int) < 2147483647; decide), ?_⟩
      exact ⟨rfl, _, _, rfl, Int.emod_nonneg _ (by decide), Int.emod_lt_of_pos _ (by decide)⟩
    · rintro σ H' ⟨rfl, m, v, rfl, h0, h1⟩
      refine ⟨_, rfl, _, rfl, _, rfl, a, _, rfl, .inl hS, _, _, rfl, rfl, .inr ⟨_, rfl, _, _, rfl, rfl, .inl ⟨by omega, by omega⟩, (by show 4 ≤ sizeLine; decide), fun p hp => ?_⟩⟩
      refine k p _ hp (same_upd hp) ⟨⟨_, _, _, upd_same, by omega, ?_, ?_⟩, .new hS hp⟩
      · split
        · omega
        · omega
      · split
        · omega
        · omega
theorem ok_next (F : FnP K "_law_next" "_law_next" sNext f fd) (mL : mg "len" = none) : FnOk P w K mg base CX0 1 f fd ["_law_dice_here", "_law_many"] (spNext K) := by
  refine fok F scNext (fun vs H Q E h => ?_) (fun cdv A outer s H vs Q E hr h => ?_)
  · obtain ⟨p, a, ns, n, rfl, _⟩ := h
    rfl
  · obtain ⟨p, a, ns, n, rfl, d, n0, n1, k⟩ := h
    refine ⟨_, pss_cons (ps_if (pt_cmpR op_gt (pe_ix ix_list (pv 0) pe_int (fun _ _ => rfl)) pe_int (nomark _))
        (pss_cons (ps_set (i := 2) scNext.nd rfl (.inl rfl) (pe_op op_mod (pe_ix ix_list (pv 0) pe_int (fun _ _ => rfl)) (pv 1)))
        (pss_cons (ps_asg (pe_op op_fdiv (pe_ix ix_list (pv 0) pe_int (fun _ _ => rfl)) (pv 1)) (pg_sub (pv 0) pe_int set_list))
        (pss_one (ps_ret (pv 2))))) pss_nil)
      (pss_cons (ps_asg (pe_op op_add (pe_ix ix_list (pv 0) pe_int (fun _ _ => rfl)) pe_int) (pg_sub (pv 0) pe_int set_list))
      (pss_cons (ps_if (pt_cmpR op_le (pe_ix ix_list (pv 0) pe_int (fun _ _ => rfl)) (pe_callB call_len_seq (by rfl) mL PySem.boot_len (pa_cons (pe_ix ix_list (pv 0) pe_int (fun _ _ => rfl)) pa_nil)) (nomark _))
        (pss_cons (ps_set (i := 3) scNext.nd rfl (.inl rfl) (pe_ix ix_list (pe_ix ix_list (pv 0) pe_int (fun _ _ => rfl)) (pe_op op_sub (pe_ix ix_list (pv 0) pe_int (fun _ _ => rfl)) pe_int) (fun _ _ => rfl)))
        (pss_cons (ps_asg (pe_ifExp (pt_cmpR op_ge (pv 3) (pe_op op_pow pe_int pe_int) (nomark _)) (pe_op op_fdiv (pv 3) (pv 1)) pe_int) (pg_sub (pv 0) pe_int set_list))
        (pss_one (ps_ret (pe_op op_mod (pv 3) (pv 1)))))) pss_nil)
      (pss_cons (ps_asg (pe_op op_mod (pe_op op_mul (pe_ix ix_list (pv 0) pe_int (fun _ _ => rfl)) pe_int) pe_int) (pg_sub (pv 0) pe_int set_list))
      (pss_one (ps_ret (pe_op op_mod (pe_op op_fdiv (pe_ix ix_list (pv 0) pe_int (fun _ _ => rfl)) pe_int) (pv 1))))))), ?_⟩
    obtain ⟨i, m, c, hp, i0, m0, m1⟩ := d.at_
    have D0 := Drew.refl d
    refine ⟨_, rfl, p, _, _, _, rfl, rfl, .of hp, rfl, _, _, rfl, rfl, _, rfl, ?_⟩
    refine ite2 (fun hc => ?_) (fun hc => ?_)
    · refine ⟨_, rfl, p, _, _, _, rfl, rfl, .of hp, rfl, _, rfl, _, _, rfl, rfl, n0, ?_⟩
      refine ⟨_, rfl, p, _, _, _, rfl, rfl, .of hp, rfl, _, rfl, _, _, rfl, rfl, ⟨n0, n1⟩, _, rfl, p, _, _, 3, rfl, rfl, hp, rfl, _, rfl, ?_⟩
      exact k _ _ (Int.emod_nonneg _ (by omega)) (Int.emod_lt_of_pos _ n0) (dice_set D0 i0 m0 m1 rfl)
    · refine ⟨_, rfl, p, _, _, _, rfl, rfl, .of hp, rfl, _, _, rfl, rfl, _, rfl, p, _, _, 1, rfl, rfl, hp, rfl, ?_⟩
      have D1 : Drew K p a ns H (upd H p (.lst [.ref a, .int (i + 1), .int m, .int c])) := dice_set D0 (by omega) m0 m1 rfl
      have e1 : (upd H p (.lst [.ref a, .int (i + 1), .int m, .int c])) p = some (.lst [.ref a, .int (i + 1), .int m, .int c]) := upd_same
      refine ⟨_, rfl, p, _, _, _, rfl, rfl, .of e1, rfl, _, rfl, p, _, _, _, rfl, rfl, .of e1, rfl, a, _, rfl, .inl D1.d.sc.seq, _, _, rfl, rfl, _, rfl, ?_⟩
      refine ite2 (fun hl => ?_) (fun hl => ?_)
      · have hl' : i + 1 ≤ ((ns.map V.int).length : Int) := of_decide_eq_true hl
        rw [List.length_map] at hl'
        obtain ⟨j, rfl⟩ : ∃ j : Nat, i = (j : Int) := ⟨i.toNat, by omega⟩
        have hj : j < ns.length := by omega
        have hx : (ns.map V.int)[j]? = some (V.int ns[j]) := by rw [List.getElem?_map, List.getElem?_eq_getElem hj]; rfl
        refine ⟨_, rfl, p, _, _, _, rfl, rfl, .of e1, rfl, _, rfl, p, _, _, _, rfl, rfl, .of e1, rfl, _, _, rfl, rfl, a, _, _, _, rfl, rfl, D1.d.sc.seq, at_of (by omega) hx, ?_⟩
        refine ⟨_, rfl, _, _, rfl, rfl, ⟨by decide, by decide, by decide⟩, _, _, rfl, rfl, _, rfl, ?_⟩
        refine ite2 (fun hg => ?_) (fun hg => ?_)
        · refine ⟨_, rfl, _, rfl, _, _, rfl, rfl, ⟨n0, n1⟩, _, rfl, p, _, _, 3, rfl, rfl, e1, rfl, _, rfl, _, rfl, _, _, rfl, rfl, n0, ?_⟩
          exact k _ _ (Int.emod_nonneg _ (by omega)) (Int.emod_lt_of_pos _ n0) (dice_set D1 (by omega) m0 m1 rfl)
        · refine ⟨_, rfl, p, _, _, 3, rfl, rfl, e1, rfl, _, rfl, _, rfl, _, _, rfl, rfl, n0, ?_⟩
          exact k _ _ (Int.emod_nonneg _ (by omega)) (Int.emod_lt_of_pos _ n0) (dice_set D1 (by omega) m0 m1 rfl)
      · refine ⟨_, rfl, p, _, _, _, rfl, rfl, .of e1, rfl, _, _, rfl, rfl, .inl ⟨by omega, by omega⟩, _, _, rfl, rfl, (by show (0 : Int) < 2147483647; decide), _, rfl, p, _, _, 2, rfl, rfl, e1, rfl, ?_⟩
        have D2 : Drew K p a ns H (upd (upd H p (.lst [.ref a, .int (i + 1), .int m, .int c])) p (.lst [.ref a, .int (i + 1), .int (m * 48271 % 2147483647), .int c])) :=
          dice_set D1 (by omega) (Int.emod_nonneg _ (by decide)) (Int.emod_lt_of_pos _ (by decide)) rfl
        refine ⟨_, rfl, p, _, _, _, rfl, rfl, .of upd_same, rfl, _, _, rfl, rfl, ⟨by decide, by decide⟩, _, rfl, _, _, rfl, rfl, n0, ?_⟩
        exact k _ _ (Int.emod_nonneg _ (by omega)) (Int.emod_lt_of_pos _ n0) D2
end
end Sk


namespace Sk
open PySem PySem.Spec PyProof.Rows L2
/-- the errors' classes: PileError at B, BadPile at CP, BadDeed at CD -/
structure TxErr (K : PySem.W.Frag) (mg : Str → Option Value) (B CP CD fP fD : Addr) (mc : Value) : Prop where
  gB : mg "PileError" = some (.ref B)
  base : BaseI K B mc
  gP : mg "BadPile" = some (.ref CP)
  oP : OexC K CP
  iP : PySem.W.findIn K (.ref CP) "__init__" = some (some (.ref fP))
  tP : PySem.W.typeIn K (.ref fP) = some (.type "function")
  nP : PySem.W.findIn K (.ref CP) "at" = some none
  gD : mg "BadDeed" = some (.ref CD)
  oD : OexC K CD
  iD : PySem.W.findIn K (.ref CD) "__init__" = some (some (.ref fD))
  tD : PySem.W.typeIn K (.ref fD) = some (.type "function")
  nH : PySem.W.findIn K (.ref CD) "hand" = some none
  nN : PySem.W.findIn K (.ref CD) "number" = some none
/-- a new error with one field .. -/
def spInit1 (K : PySem.W.Frag) (C : Addr) (f : Str) : Sp := fun vs H Q _ => ∃ (a : Addr) (n : Int), vs = [.ref a, .int n] ∧ n.natAbs.log2 < 1920 ∧ H a = some (exo a C none) ∧
  ∀ dx, H dx = none → dx ≠ a → Q .non (upd (upd H dx (exd dx [(f, .int n)])) a (exo a C (some dx)))
/-- .. with two -/
def spInit2 (K : PySem.W.Frag) (C : Addr) (f g : Str) : Sp := fun vs H Q _ => ∃ (a : Addr) (n m : Int), vs = [.ref a, .int n, .int m] ∧ n.natAbs.log2 < 1920 ∧ m.natAbs.log2 < 1920 ∧ H a = some (exo a C none) ∧
  ∀ dx, H dx = none → dx ≠ a → Q .non (upd (upd (upd H dx (exd dx [(f, .int n)])) a (exo a C (some dx))) dx (exd dx [(g, .int m), (f, .int n)]))
theorem txt_fit {x : Str} {i : Int} (h : i.natAbs.log2 < 1920) (hx : x.length ≤ 10000) : (x ++ (Str.ofString (toString i))).length ≤ 20000 := by
  rw [PySem.Str.length_append]
  have := PyProof.Rows.int_text_len_1921 h
  omega
theorem line_of {n : Nat} (h : n ≤ 20000) : n ≤ sizeLine := by
  rw [sizeLine_eq]
  omega
section
variable {P : Program} {w : World} {K : PySem.W.Frag} {mg : Str → Option Value} {base : Heap} {f : Addr} {fd : FuncData} {B CP CD fP fD : Addr} {mc : Value}
theorem scInitP : FnScope ["self", "at"] ["self", "at"] (defScope sInitP) := ⟨rfl, rfl, rfl, by decide +kernel, rfl, by decide +kernel, by decide +kernel⟩
theorem scInitD : FnScope ["self", "hand", "number"] ["self", "hand", "number"] (defScope sInitD) := ⟨rfl, rfl, rfl, by decide +kernel, rfl, by decide +kernel, by decide +kernel⟩
theorem ok_initP (F : FnP K "__init__" "BadPile.__init__" sInitP f fd) (T : TxErr K mg B CP CD fP fD mc) : FnOk P w K mg base CX0 1 f fd ["self", "at"] (spInit1 K CP "at") := by
  refine fok F scInitP (fun vs H Q E h => ?_) (fun cdv A outer s H vs Q E hr h => ?_)
  · obtain ⟨a, n, rfl, _⟩ := h
    rfl
  · obtain ⟨a, n, rfl, hz, ha, k⟩ := h
    refine ⟨_, pss_cons (ps_expr (pe_ownInit (by rfl) T.gB T.base (pa_cons (pv 0) (pa_cons (pe_joined (.cons pe_str (.cons (pe_fmt (pv 1)) .nil))) pa_nil)))) (pss_one (ps_ost (pv 0) (pv 1))), ?_⟩
    refine ⟨_, rfl, _, rfl, ?l1, _, rfl, .inr ⟨n, rfl, hz, _, rfl, ?l2, a, CP, _, rfl, ?l3, T.oP, ha, _, rfl, _, rfl, a, CP, rfl, T.oP, T.nP, .inl ⟨ha, fun dx h1 h2 => k dx h1 h2⟩⟩⟩
    case l1 => exact line_of (by decide +kernel)
    case l2 => exact line_of (txt_fit hz (by decide +kernel))
    case l3 => show 1 ≤ 1000; decide
theorem ok_initD (F : FnP K "__init__" "BadDeed.__init__" sInitD f fd) (T : TxErr K mg B CP CD fP fD mc) : FnOk P w K mg base CX0 1 f fd ["self", "hand", "number"] (spInit2 K CD "hand" "number") := by
  refine fok F scInitD (fun vs H Q E h => ?_) (fun cdv A outer s H vs Q E hr h => ?_)
  · obtain ⟨a, n, m, rfl, _⟩ := h
    rfl
  · obtain ⟨a, n, m, rfl, hz, hz2, ha, k⟩ := h
    refine ⟨_, pss_cons (ps_expr (pe_ownInit (by rfl) T.gB T.base (pa_cons (pv 0) (pa_cons (pe_joined (.cons pe_str (.cons (pe_fmt (pv 1)) (.cons pe_str (.cons (pe_fmt (pv 2)) .nil))))) pa_nil)))) (pss_cons (ps_ost (pv 0) (pv 1)) (pss_one (ps_ost (pv 0) (pv 2)))), ?_⟩
    refine ⟨_, rfl, _, rfl, ?l1, _, rfl, .inr ⟨n, rfl, hz, _, rfl, ?l2, _, rfl, ?l3, _, rfl, .inr ⟨m, rfl, hz2, _, rfl, ?l4, a, CD, _, rfl, ?l5, T.oD, ha, _, rfl, _, rfl, a, CD, rfl, T.oD, T.nH, .inl ⟨ha, fun dx h1 h2 => ?_⟩⟩⟩⟩
    case l1 => exact line_of (by decide +kernel)
    case l2 => exact line_of (txt_fit hz (by decide +kernel))
    case l3 =>
      refine line_of ?_
      rw [PySem.Str.length_append]
      have := txt_fit (x := Str.empty ++ Str.ofString "no deed: hand ") hz (by decide +kernel)
      have e1 : (Str.ofString ", deed ").length = 7 := by decide +kernel
      have e2 : (Str.empty ++ Str.ofString "no deed: hand ").length = 14 := by decide +kernel
      rw [PySem.Str.length_append] at this ⊢
      have := PyProof.Rows.int_text_len_1921 hz
      omega
    case l4 =>
      refine line_of ?_
      rw [PySem.Str.length_append, PySem.Str.length_append, PySem.Str.length_append]
      have e1 : (Str.ofString ", deed ").length = 7 := by decide +kernel
      have e2 : (Str.empty ++ Str.ofString "no deed: hand ").length = 14 := by decide +kernel
      have := PyProof.Rows.int_text_len_1921 hz
      have := PyProof.Rows.int_text_len_1921 hz2
      omega
    case l5 => show 1 ≤ 1000; decide
    refine ⟨_, rfl, _, rfl, a, CD, rfl, T.oD, T.nN, .inr ⟨dx, _, upd_same, (by rw [upd_ne h2, upd_same]), (by show 1 ≤ 900; decide), k dx h1 h2⟩⟩
/-! ### values and deeds -/
def spIsVal : Sp := fun vs H Q _ => ∃ n : Int, vs = [.int n] ∧ Q (.bl (valB n)) H
theorem scIsVal : FnScope ["number"] ["number"] (defScope sIsVal) := ⟨rfl, rfl, rfl, by decide +kernel, rfl, by decide +kernel, by decide +kernel⟩
theorem ok_isVal (F : FnP K "is_value" "is_value" sIsVal f fd) (mH : ∃ t, mg "HIGHEST_VALUE" = some (.int 99 t)) : FnOk P w K mg base CX0 1 f fd ["number"] spIsVal := by
  obtain ⟨t, mH⟩ := mH
  refine fok F scIsVal (fun vs H Q E h => ?_) (fun cdv A outer s H vs Q E hr h => ?_)
  · obtain ⟨n, rfl, _⟩ := h
    rfl
  · obtain ⟨n, rfl, k⟩ := h
    refine ⟨_, pss_one (ps_ret (pe_chain op_le op_le pe_int (pv 0) (pe_glob (v := .int 99) rfl mH ⟨_, rfl⟩))), ?_⟩
    refine ⟨_, rfl, _, _, rfl, rfl, _, rfl, ?_⟩
    refine ite2 (fun h1 => ⟨_, _, rfl, rfl, ?_⟩) (fun h1 => ?_)
    · have e : valB n = decide (n ≤ 99) := by unfold valB; rw [h1, Bool.true_and]
      rw [e] at k
      exact k
    · have e : valB n = false := by unfold valB; rw [Bool.eq_false_iff.mpr h1, Bool.false_and]
      rw [e] at k
      exact k
def spIsDeed (K : PySem.W.Frag) : Sp := fun vs H Q _ => ∃ (t : Addr) (r : Row), vs = [.ref t] ∧ SqT K H t (rowV r) ∧ Lay r ∧ Q (.bl (okRow r)) H
theorem scIsDeed : FnScope ["deed"] ["deed"] (defScope sIsDeed) := ⟨rfl, rfl, rfl, by decide +kernel, rfl, by decide +kernel, by decide +kernel⟩
theorem ok_isDeed {fV pop : Addr} {fdV : FuncData} (F : FnP K "is_deed" "is_deed" sIsDeed f fd) (FV : FnP K "is_value" "is_value" sIsVal fV fdV) (gV : mg "is_value" = some (.ref fV)) (mH : ∃ t, mg "HIGHEST_VALUE" = some (.int 99 t)) (TP : TxPop K mg pop) (mL : mg "len" = none) :
    FnOk P w K mg base CX0 2 f fd ["deed"] (spIsDeed K) := by
  have G : FnOk P w K mg base CX0 1 fV fdV ["number"] spIsVal := ok_isVal FV mH
  have b : Binds K fdV ["number"] [] := FV.bindsN fun _ _ _ _ _ _ us hl => match us, hl with | [_], _ => rfl
  refine fok F scIsDeed (fun vs H Q E h => ?_) (fun cdv A outer s H vs Q E hr h => ?_)
  · obtain ⟨t, r, rfl, _⟩ := h
    rfl
  · obtain ⟨t, r, rfl, hS, hL, k⟩ := h
    refine ⟨_, pss_cons (ps_if (pt_cmpR (op_eqD hr.units) (pv 0) (pe_glob (v := .ref pop) rfl TP.g rfl) (nomark _)) (pss_one (ps_ret pe_bl)) pss_nil)
      (pss_one (ps_ret (pe_and (pe_cmpR op_eq (pe_callB call_len_seq (by rfl) mL PySem.boot_len (pa_cons (pv 0) pa_nil)) pe_int (nomark _))
        (pe_and (pe_cmpR op_eq (pe_ix ix_tup (pv 0) pe_int (fun _ _ => rfl)) pe_str (nomark _)) (pe_one (pe_call G hr rfl gV FV.kp b .nil pass0 (pa_cons (pe_ix ix_tup (pv 0) pe_int (fun _ _ => rfl)) pa_nil))))))), ?_⟩
    refine ⟨_, rfl, _, _, row_dp hS, .tup (TP.at_ _) (.cons (.str _) .nil), hL, pop_lay, _, rfl, ?_⟩
    rw [eqv_pop]
    refine ite2 (fun hp => ?_) (fun hp => ?_)
    · rw [isPop_ok hp] at k
      exact k
    · refine ⟨_, rfl, t, _, rfl, .inr hS, rfl, _, rfl, ?_⟩
      cases r with
      | none =>
        exact iteF k
      | some q =>
        obtain ⟨z, is⟩ := q
        cases is with
        | nil =>
          have e : okRow (some (z, [])) = false := by
            have : ¬ z = sPop := fun q => hp (by rw [q]; simp [isPop])
            simp [okRow, this]
          rw [e] at k
          exact iteF k
        | cons v l =>
          cases l with
          | nil =>
            refine iteT ⟨_, rfl, _, _, _, _, rfl, rfl, hS, rfl, rfl, _, rfl, ?_⟩
            refine ite2 (fun hz => ?_) (fun hz => ?_)
            · have ez : z = sPush := by simpa using of_decide_eq_true hz
              refine ⟨_, rfl, _, _, _, _, rfl, rfl, hS, rfl, v, rfl, ?_⟩
              have e : okRow (some (z, [v])) = valB v := by simp [okRow, ez]
              rw [e] at k
              exact k
            · have nz : ¬ z = sPush := fun q => hz (by rw [q]; exact decide_eq_true rfl)
              have e : okRow (some (z, [v])) = false := by simp [okRow, nz]
              rw [e] at k
              exact k
          | cons u l =>
            have hn : ¬ ((V.int (((rowV (some (z, v :: u :: l))).length : Nat) : Int)) = V.int 2) := by
              intro q
              have q2 := V.int.inj q
              simp [rowV] at q2
              omega
            show (if decide (V.int (((rowV (some (z, v :: u :: l))).length : Nat) : Int) = V.int 2) = true then _ else _)
            rw [decide_eq_false hn]
            exact iteF k
end
end Sk


namespace Sk
open PySem PySem.Spec PyProof.Rows L2
/-- what is wanted of an error of the class at C with the fields fs, raised over H -/
def Wants (E : XK) (H : Hp) (C : Addr) (fs : List (Str × V)) : Prop := ∀ (d : Addr) (H' : Hp), Same H H' → H' d = some (.xd fs) → E (.ref C) (some d) H'
section
variable {K : PySem.W.Frag} {C : Addr} {f g : Str}
theorem same_exc {H1 H2 : Hp} {a d : Addr} {u : HO} (na : H1 a = none) (nd : H1 d = none) (k : ∀ b o, b ≠ a → b ≠ d → H1 b = some o → H2 b = some o) : Same H1 (upd (del H2 a) d u) := fun b o e => by
  rw [upd_ne (ne_of_none e nd), del_ne (ne_of_none e na)]
  exact k b o (ne_of_none e na) (ne_of_none e nd) e
theorem raise1 {H1 : Hp} {E : XK} {n : Int} (hz : n.natAbs.log2 < 1920) (k : Wants E H1 C [(f, .int n)]) : ([V.int n] : List V).length ≤ 1000 ∧ ∀ a, H1 a = none → spInit1 K C f (.ref a :: ([V.int n] ++ [])) (upd H1 a (exo a C none))
    (fun v H2 => v = .non ∧ ∃ (d : Addr) (fs : List (Str × V)), H2 a = some (exo a C (some d)) ∧ H2 d = some (exd d fs) ∧ H1 d = none ∧ E (.ref C) (some d) (upd (del H2 a) d (.xd fs))) E0 := by
  refine ⟨by show 1 ≤ 1000; decide, fun a na => ⟨a, n, rfl, hz, upd_same, fun dx h1 h2 => ⟨rfl, dx, _, upd_same, (by rw [upd_ne h2, upd_same]), ?_, ?_⟩⟩⟩
  · rw [upd_ne h2] at h1
    exact h1
  · have nd : H1 dx = none := by
      rw [upd_ne h2] at h1
      exact h1
    exact k dx _ (same_exc na nd fun b o q1 q2 e => by rw [upd_ne q1, upd_ne q2, upd_ne q1]; exact e) upd_same
theorem raise2 {H1 : Hp} {E : XK} {n m : Int} (hz : n.natAbs.log2 < 1920) (hz2 : m.natAbs.log2 < 1920) (k : Wants E H1 C [(g, .int m), (f, .int n)]) : ([V.int n, V.int m] : List V).length ≤ 1000 ∧ ∀ a, H1 a = none → spInit2 K C f g (.ref a :: ([V.int n, V.int m] ++ [])) (upd H1 a (exo a C none))
    (fun v H2 => v = .non ∧ ∃ (d : Addr) (fs : List (Str × V)), H2 a = some (exo a C (some d)) ∧ H2 d = some (exd d fs) ∧ H1 d = none ∧ E (.ref C) (some d) (upd (del H2 a) d (.xd fs))) E0 := by
  refine ⟨by show 2 ≤ 1000; decide, fun a na => ⟨a, n, m, rfl, hz, hz2, upd_same, fun dx h1 h2 => ⟨rfl, dx, _, (by rw [upd_ne (Ne.symm h2), upd_same]), upd_same, ?_, ?_⟩⟩⟩
  · rw [upd_ne h2] at h1
    exact h1
  · have nd : H1 dx = none := by
      rw [upd_ne h2] at h1
      exact h1
    exact k dx _ (same_exc na nd fun b o q1 q2 e => by rw [upd_ne q2, upd_ne q1, upd_ne q2, upd_ne q1]; exact e) upd_same
end
section
variable {P : Program} {w : World} {K : PySem.W.Frag} {mg : Str → Option Value} {base : Heap} {f : Addr} {fd : FuncData}
/-- a def that may let an own error out -/
theorem fokN {x q : Str} {st : Stmt} {N ps : List Str} {k : Nat} {sp : Sp} (F : FnP K x q st f fd) (S : FnScope N ps (defScope st)) (len : ∀ vs H Q E, sp vs H Q E → vs.length = ps.length)
    (body : ∀ (cdv : Value) (A : Around) (outer : List Env) (s : Shared) (H : Hp) (vs : List V) (Q : VK) (E : XK), Room k (A.deeper (envOfC q (defScope st) s.heap.objs.size f cdv)) → sp vs H Q E →
      ∃ t, PSs (cxOf (L2N.CX P w) P w K mg base N q (defScope st) f cdv A outer s H E) (defBody st) t ∧ t { nx := fun _ H' => Q .non H', rt := Q } (start N vs) H) : FnOk P w K mg base (L2N.CX P w) (k + 1) f fd ps sp :=
  F.ok S len body
theorem small_log {n : Int} (h : n.natAbs < 2 ^ 64) : n.natAbs.log2 < 1920 := by
  by_cases z : n.natAbs = 0
  · rw [z]; decide
  · have := (Nat.log2_lt z).mpr h
    omega
def spChkV (K : PySem.W.Frag) (CP : Addr) : Sp := fun vs H Q E => ∃ (a : Addr) (ns : List Int), vs = [.ref a] ∧ SqL K H a (ns.map V.int) ∧ ns.length ≤ 1000 ∧ (6 < ns.length → Wants E H CP [("at", .int 6)]) ∧
  (ns.length ≤ 6 → ∀ i : Nat, firstNot valB ns = some i → Wants E H CP [("at", .int (i : Int))]) ∧ (ns.length ≤ 6 → firstNot valB ns = none → ∀ H', Same H H' → Q .non H')
theorem scChkV : FnScope ["values", "at", "value"] ["values"] (defScope sChkV) := ⟨rfl, rfl, rfl, by decide +kernel, rfl, by decide +kernel, by decide +kernel⟩
theorem ok_chkV {fV fP B CP CD fD : Addr} {mc : Value} {fdV fdP : FuncData} (F : FnP K "check_values" "check_values" sChkV f fd) (FV : FnP K "is_value" "is_value" sIsVal fV fdV) (gV : mg "is_value" = some (.ref fV)) (mH : ∃ t, mg "HIGHEST_VALUE" = some (.int 99 t))
    (mM : ∃ t, mg "MOST_VALUES" = some (.int 6 t)) (T : TxErr K mg B CP CD fP fD mc) (FP : FnP K "__init__" "BadPile.__init__" sInitP fP fdP) (mL : mg "len" = none) (mE : mg "enumerate" = none) : FnOk P w K mg base (L2N.CX P w) 3 f fd ["values"] (spChkV K CP) := by
  have G : FnOk P w K mg base CX0 1 fV fdV ["number"] spIsVal := ok_isVal FV mH
  have b : Binds K fdV ["number"] [] := FV.bindsN fun _ _ _ _ _ _ us hl => match us, hl with | [_], _ => rfl
  have GP : FnOk P w K mg base CX0 1 fP fdP ["self", "at"] (spInit1 K CP "at") := ok_initP FP T
  have bP : Binds K fdP ["self", "at"] [] := FP.bindsN fun _ _ _ _ _ _ us hl => match us, hl with | [_, _], _ => rfl
  obtain ⟨tM, mM⟩ := mM
  refine fokN F scChkV (fun vs H Q E h => ?_) (fun cdv A outer s H vs Q E hr h => ?_)
  · obtain ⟨a, ns, rfl, _⟩ := h
    rfl
  · obtain ⟨a, ns, rfl, hS, hz, k1, k2, k3⟩ := h
    refine ⟨_, pss_cons (ps_if (pt_cmpR op_gt (pe_callB call_len_seq (by rfl) mL PySem.boot_len (pa_cons (pv 0) pa_nil)) (pe_glob (v := .int 6) rfl mM ⟨_, rfl⟩) (nomark _))
        (pss_one (L2N.ps_raise rfl (L2N.takes_of rfl rfl rfl rfl) (pmkN T.oP T.iP T.tP GP hr bP pass0 (by rfl) T.gP (pa_cons (pe_glob (v := .int 6) rfl mM ⟨_, rfl⟩) pa_nil)))) pss_nil)
      (pss_one (ps_for (passes_of rfl) rfl (pi_enum (by rfl) mE (pa_cons (pv 0) pa_nil)) (pg_tup (by rfl) (pgs_cons (pg_name (i := 1) scChkV.nd rfl (.inl rfl)) (pgs_cons (pg_name (i := 2) scChkV.nd rfl (.inl rfl)) pgs_nil)))
        (pss_one (ps_if (pt_not (pt_val (pe_call G (hr.mono (by decide)) rfl gV FV.kp b .nil pass0 (pa_cons (pv 2) pa_nil))))
          (pss_one (L2N.ps_raise rfl (L2N.takes_of rfl rfl rfl rfl) (pmkN T.oP T.iP T.tP GP hr bP pass0 (by rfl) T.gP (pa_cons (pv 1) pa_nil)))) pss_nil)))), ?_⟩
    refine ⟨_, rfl, a, _, rfl, .inl hS, _, _, rfl, rfl, _, rfl, ?_⟩
    refine ite2 (fun hl => ?_) (fun hl => ?_)
    · have h6 : 6 < ns.length := by
        have := of_decide_eq_true hl
        rw [List.length_map] at this
        omega
      exact raise1 (small_log (by decide)) (k1 h6)
    · have h6 : ns.length ≤ 6 := by
        have q : ¬ (6 < (((ns.map V.int).length : Nat) : Int)) := fun z => hl (decide_eq_true z)
        rw [List.length_map] at q
        omega
      refine ⟨_, rfl, a, _, rfl, hS, for_it walk_enum (fun i σ H' => Same H H' ∧ (∃ u v : Option V, σ = [some (.ref a), u, v]) ∧ ∀ j, j < i → ∀ y, ns[j]? = some y → valB y = true) ⟨.refl H, ⟨none, none, rfl⟩, fun j hj => absurd hj (Nat.not_lt_zero _)⟩ (fun i σ H' _ z => z.1.seq hS) ?_ ?_⟩
      · rintro i x σ H1 H2 hi ⟨s1, ⟨u, v, rfl⟩, before⟩ ⟨t, x1, x2, rfl, nt, rfl, e1, e2⟩
        have e1' : V.int (i : Nat) = x1 := Option.some.inj e1
        subst e1'
        rw [List.length_map] at hi
        have e3 : x2 = V.int ns[i] := by
          have e4 : (ns.map V.int)[i]? = some x2 := e2
          rw [List.getElem?_map, List.getElem?_eq_getElem hi] at e4
          exact (Option.some.inj e4).symm
        subst e3
        have s2 : Same H (upd H1 t (.tup [.int (i : Nat), .int ns[i]])) := s1.trans (same_upd nt)
        refine ⟨t, _, rfl, SqT.of upd_same, rfl, _, _, rfl, _, _, rfl, rfl, _, rfl, _, rfl, _, rfl, ?_⟩
        refine ite2 (fun hb => ?_) (fun hb => ?_)
        · have hv : valB ns[i] = false := by simpa using hb
          refine ⟨_, rfl, raise1 (small_log (by omega)) fun d H' s3 e => k2 h6 i (firstNot_of (List.getElem?_eq_getElem hi) hv before) d H' (s2.trans s3) e⟩
        · have hv : valB ns[i] = true := by simpa using hb
          refine ⟨s2, ⟨_, _, rfl⟩, fun j hj y hy => ?_⟩
          by_cases hji : j = i
          · subst hji
            rw [List.getElem?_eq_getElem hi] at hy
            rw [← Option.some.inj hy]
            exact hv
          · exact before j (by omega) y hy
      · rintro σ H1 ⟨s1, ⟨u, v, rfl⟩, before⟩
        refine k3 h6 (firstNot_all fun x hx => ?_) H1 s1
        obtain ⟨j, hj, e⟩ := List.mem_iff_getElem.mp hx
        exact before j (by rw [List.length_map]; exact hj) x (by rw [List.getElem?_eq_getElem hj, e])
end
end Sk


namespace Sk
open PySem PySem.Spec PyProof.Rows L2
/-- a weaving drawn -/
def spWeav (K : PySem.W.Frag) : Sp := fun vs H Q _ => ∃ (p a : Addr) (ns : List Int) (n m : Int), vs = [.ref p, .int n, .int m] ∧ Dice K H p a ns ∧ 0 < n ∧ n ≤ 1000 ∧ 0 < m ∧ m ≤ 1000 ∧
  ∀ (W : Addr) (ws : List Nat) (H' : Hp), Drew K p a ns H H' → H W = none → H' W = some (.lst (vN ws)) → (∀ i ∈ ws, (i : Int) < n) → ws.length ≤ 5 * m.toNat → Q (.ref W) H'
section
variable {P : Program} {w : World} {K : PySem.W.Frag} {mg : Str → Option Value} {base : Heap} {f : Addr} {fd : FuncData} {a__law_next : Addr} {d__law_next : FuncData}
theorem scWeav : FnScope ["_law_d", "_law_many", "_law_most", "_law_weaving_here", "_law_k"] ["_law_d", "_law_many", "_law_most"] (defScope sWeav) := ⟨rfl, rfl, rfl, by decide +kernel, rfl, by decide +kernel, by decide +kernel⟩
theorem ok_weav (F : FnP K "_law_weaving" "_law_weaving" sWeav f fd) (F__law_next : FnP K "_law_next" "_law_next" sNext a__law_next d__law_next) (g__law_next : mg "_law_next" = some (.ref a__law_next)) (T : TxB mg) : FnOk P w K mg base CX0 2 f fd ["_law_d", "_law_many", "_law_most"] (spWeav K) := by
  have G__law_next : FnOk P w K mg base CX0 1 a__law_next d__law_next ["_law_dice_here", "_law_many"] (spNext K) := ok_next F__law_next T.len
  have b__law_next : Binds K d__law_next ["_law_dice_here", "_law_many"] [] := F__law_next.bindsN fun _ _ _ _ _ _ us hl => match us, hl with | [_, _], _ => rfl
  refine fok F scWeav (fun vs H Q E h => ?_) (fun cdv A outer s H vs Q E hr h => ?_)
  · obtain ⟨p, a, ns, n, m, rfl, _⟩ := h
    rfl
  · obtain ⟨p, a, ns, n, m, rfl, d, n0, n1, m0, m1, k⟩ := h
    refine ⟨_, (pss_cons
    (ps_set (i := 3) scWeav.nd rfl (.inl rfl) (pe_lst pa_nil)) (pss_cons
    (ps_for PassesOwn.never rfl (pi_range1 (by rfl) T.range (pa_cons (pe_call G__law_next hr (by rfl) g__law_next F__law_next.kp b__law_next .nil pass0 (pa_cons (pv 0) (pa_cons (pv 2) pa_nil))) pa_nil)) (pg_name (i := 4) scWeav.nd rfl (.inl rfl)) (pss_one (ps_set (i := 3) scWeav.nd rfl (.inl rfl) (pe_op op_cat (pv 3) (pe_op op_rep (pe_lst (pa_cons (pe_call G__law_next hr (by rfl) g__law_next F__law_next.kp b__law_next .nil pass0 (pa_cons (pv 0) (pa_cons (pv 1) pa_nil))) pa_nil)) (pe_op op_add pe_int (pe_call G__law_next hr (by rfl) g__law_next F__law_next.kp b__law_next .nil pass0 (pa_cons (pv 0) (pa_cons pe_int pa_nil))))))))) (pss_one
    (ps_ret (pv 3))))), ?_⟩
    refine ⟨Nat.zero_le _, fun W0 nW0 => ?_⟩
    have d0 := d.same (same_upd (o := .lst ([] : List V)) nW0)
    refine ⟨_, rfl, _, rfl, p, a, ns, m, rfl, d0, m0, by omega, fun c H1 c0 c1 w1 => ⟨c, rfl, by omega, by omega, ?_⟩⟩
    have W0p : W0 ≠ p := (ne_of_none d.some.choose_spec nW0).symm
    have wD : Drew K p a ns H H1 := ⟨w1.d, (But.of (same_upd nW0)).trans w1.b⟩
    refine for_range (lo := 0) (n := c.toNat) (fun i σ H' => Drew K p a ns H H' ∧ ∃ (N : Addr) (ws : List Nat) (z : Option V), H N = none ∧ N ≠ p ∧ σ = [some (.ref p), some (.int n), some (.int m), some (.ref N), z] ∧ H' N = some (.lst (vN ws)) ∧ (∀ j ∈ ws, (j : Int) < n) ∧ ws.length ≤ 5 * i)
      ⟨wD, W0, [], none, nW0, W0p, rfl, w1.b _ _ W0p upd_same, fun j hj => (by cases hj), Nat.zero_le _⟩ ?turn ?rest
    case turn =>
      rintro i σ H2 hi ⟨w2, N, ws, z, nN, Np, rfl, eN, hw, lw⟩
      refine ⟨_, rfl, _, rfl, _, rfl, p, a, ns, n, rfl, w2.d, n0, by omega, fun x H3 x0 x1 w3 => ⟨by show 1 ≤ sizeLine; decide, fun A1 nA1 => ?_⟩⟩
      have sA1 := same_upd (o := .lst [V.int x]) nA1
      refine ⟨_, rfl, p, a, ns, 5, rfl, w3.d.same sA1, by decide, by decide, fun y H4 y0 y1 w4 => ⟨_, _, rfl, rfl, ?_⟩⟩
      have A1p : A1 ≠ p := w3.ne nA1
      have eA1 := w4.b _ _ A1p (upd_same (H := H3) (a := A1) (o := .lst [V.int x]))
      refine ⟨A1, 1 + y, _, rfl, rfl, eA1, by omega, by omega, ?_, fun B nB => ?_⟩
      · show 1 * (1 + y).toNat ≤ sizeLine
        rw [sizeLine_eq]
        omega
      have sB := same_upd (o := .lst (List.replicate (1 + y).toNat [V.int x]).flatten) nB
      have w34 : But p H2 H4 := w3.b.trans ((But.of sA1).trans w4.b)
      have eN4 := sB _ _ (w34 N _ Np eN)
      have Bp : B ≠ p := w4.ne nB
      refine ⟨N, B, _, _, rfl, rfl, eN4, upd_same, ?_, fun C nC => ?_⟩
      · rw [List.length_map, List.length_flatten, List.map_replicate, List.sum_replicate_nat, sizeLine_eq]
        show ws.length + (1 + y).toNat * 1 ≤ _
        omega
      have sC := same_upd (o := .lst (vN ws ++ (List.replicate (1 + y).toNat [V.int x]).flatten)) nC
      have wAll : Drew K p a ns H2 _ := ⟨(w4.d.same sB).same sC, w34.trans ((But.of sB).trans (But.of sC))⟩
      refine ⟨w2.trans wAll, C, ws ++ List.replicate (1 + y).toNat x.toNat, _, (w2.trans (⟨w4.d, w34⟩ : Drew K p a ns H2 H4)).free (by
        cases e : H4 C with
        | none => rfl
        | some o =>
          rw [sB _ _ e] at nC
          cases nC), (ne_of_none (w4.d.same sB).some.choose_spec nC).symm, rfl, ?_, fun j hj => ?_, ?_⟩
      · rw [upd_same]
        have e1 : vN (ws ++ List.replicate (1 + y).toNat x.toNat) = vN ws ++ (List.replicate (1 + y).toNat [V.int x]).flatten := by
          show List.map _ _ = _
          rw [List.map_append, List.map_replicate]
          congr 1
          have : ∀ m : Nat, List.replicate m (V.int ((x.toNat : Nat) : Int)) = (List.replicate m [V.int x]).flatten := fun m => by
            induction m with
            | zero => rfl
            | succ m ih =>
              rw [List.replicate_succ, List.replicate_succ, List.flatten_cons, ih]
              have : ((x.toNat : Nat) : Int) = x := by omega
              rw [this]
              rfl
          exact this _
        rw [e1]
      · rcases List.mem_append.mp hj with q | q
        · exact hw j q
        · rw [(List.mem_replicate.mp q).2]
          omega
      · rw [List.length_append, List.length_replicate]
        omega
    case rest =>
      rintro σ H2 ⟨w2, N, ws, z, nN, Np, rfl, eN, hw, lw⟩
      exact ⟨_, rfl, k N ws H2 w2 nN eN hw (by omega)⟩
end
end Sk


namespace Sk
open PySem PySem.Spec PyProof.Rows L2
/-- a rule drawn for n hands -/
def spRule (K : PySem.W.Frag) : Sp := fun vs H Q _ => ∃ (p a : Addr) (ns : List Int) (n : Nat), vs = [.ref p, .int (n : Int)] ∧ Dice K H p a ns ∧ n ≤ 1000 ∧
  ∀ (t : Addr) (r : Rule) (H' : Hp), Drew K p a ns H H' → H t = none → RuleAt H' t r → r.fit n → Q (.ref t) H'
section
variable {P : Program} {w : World} {K : PySem.W.Frag} {mg : Str → Option Value} {base : Heap} {f : Addr} {fd : FuncData} {a__law_next : Addr} {d__law_next : FuncData}
theorem scRule : FnScope ["_law_d", "_law_many", "_law_kind", "_law_hand"] ["_law_d", "_law_many"] (defScope sRule) := ⟨rfl, rfl, rfl, by decide +kernel, rfl, by decide +kernel, by decide +kernel⟩
theorem ok_rule (F : FnP K "_law_rule" "_law_rule" sRule f fd) (F__law_next : FnP K "_law_next" "_law_next" sNext a__law_next d__law_next) (g__law_next : mg "_law_next" = some (.ref a__law_next)) (T : TxB mg) : FnOk P w K mg base CX0 2 f fd ["_law_d", "_law_many"] (spRule K) := by
  have G__law_next : FnOk P w K mg base CX0 1 a__law_next d__law_next ["_law_dice_here", "_law_many"] (spNext K) := ok_next F__law_next T.len
  have b__law_next : Binds K d__law_next ["_law_dice_here", "_law_many"] [] := F__law_next.bindsN fun _ _ _ _ _ _ us hl => match us, hl with | [_, _], _ => rfl
  refine fok F scRule (fun vs H Q E h => ?_) (fun cdv A outer s H vs Q E hr h => ?_)
  · obtain ⟨p, a, ns, n, rfl, _⟩ := h
    rfl
  · obtain ⟨p, a, ns, n, rfl, d, n1, k⟩ := h
    refine ⟨_, (pss_cons
    (ps_set (i := 2) scRule.nd rfl (.inl rfl) (pe_call G__law_next hr (by rfl) g__law_next F__law_next.kp b__law_next .nil pass0 (pa_cons (pv 0) (pa_cons pe_int pa_nil)))) (pss_cons
    (ps_if (pt_cmpR op_lt (pv 2) pe_int (nomark _)) (pss_one (ps_ret (pe_tup (pa_cons pe_str (pa_cons (pe_op op_add pe_int (pe_call G__law_next hr (by rfl) g__law_next F__law_next.kp b__law_next .nil pass0 (pa_cons (pv 0) (pa_cons (pe_ix ix_list (pe_lst (pa_cons pe_int (pa_cons pe_int pa_nil))) (pe_call G__law_next hr (by rfl) g__law_next F__law_next.kp b__law_next .nil pass0 (pa_cons (pv 0) (pa_cons pe_int pa_nil))) (fun _ _ => rfl)) pa_nil)))) pa_nil))))) pss_nil) (pss_cons
    (ps_if (pt_cmpR op_eq (pv 2) pe_int (nomark _)) (pss_one (ps_ret (pe_tup (pa_cons pe_str (pa_cons (pe_callTy call_tuple_of (by rfl) T.tuple (by decide +kernel) (pa_cons (pe_lc (own := [("_law_hand", 3)]) (g := gName 3) rfl scRule.nd (pi_range1 (by rfl) T.range (pa_cons (pv 1) pa_nil)) (blkOk_by (N := (["_law_d", "_law_many", "_law_kind", "_law_hand"])) (sc := defScope sRule) (by decide +kernel)) (fun _ _ _ _ _ => pg_name (i := 3) scRule.nd rfl (Or.inl rfl)) (fun _ _ _ _ _ => pts_one (pt_cmpR op_eq (pe_call G__law_next hr (by rfl) g__law_next F__law_next.kp b__law_next .nil pass0 (pa_cons (pv 0) (pa_cons pe_int pa_nil))) pe_int (nomark _))) (fun _ _ _ _ _ => (pv 3))) pa_nil)) pa_nil))))) pss_nil) (pss_one
    (ps_ret (pe_tup (pa_cons pe_str pa_nil))))))), ?_⟩
    refine ⟨_, rfl, p, a, ns, 4, rfl, d, by decide, by decide, fun c H1 c0 c1 w1 => ⟨_, rfl, _, _, rfl, rfl, _, rfl, ?_⟩⟩
    refine ite2 (fun _ => ?_) (fun h2 => ?_)
    · -- counts
      refine ⟨_, rfl, by show 2 ≤ sizeLine; decide, fun A1 nA1 => ⟨_, rfl, p, a, ns, 2, rfl, w1.d.same (same_upd nA1), by decide, by decide, fun x H2 x0 x1 w2 => ?_⟩⟩
      have A1p : A1 ≠ p := w1.ne nA1
      have eA1 := w2.b _ _ A1p (upd_same (H := H1) (a := A1) (o := .lst [V.int 3, V.int 15]))
      have w12 : Drew K p a ns H H2 := ⟨w2.d, w1.b.trans ((But.of (same_upd nA1)).trans w2.b)⟩
      obtain ⟨m, hm, em⟩ : ∃ m : Int, (m = 3 ∨ m = 15) ∧ atI [V.int 3, V.int 15] x = some (.int m) := by
        rcases (by omega : x = 0 ∨ x = 1) with rfl | rfl
        · exact ⟨3, .inl rfl, rfl⟩
        · exact ⟨15, .inr rfl, rfl⟩
      refine ⟨A1, _, x, _, rfl, rfl, SqL.of eA1, em, p, a, ns, m, rfl, w2.d, by omega, by omega, fun y H3 y0 y1 w3 => ⟨_, _, rfl, rfl, by show 2 ≤ sizeLine; decide, fun t nt => ?_⟩⟩
      refine k t (.counts (1 + y).toNat) _ ((w12.trans w3).same (same_upd nt)) ((w12.trans w3).free nt) ?_ ⟨by omega, by omega⟩
      show upd H3 t _ t = _
      rw [upd_same]
      have : (((1 + y).toNat : Nat) : Int) = 1 + y := by omega
      rw [this]
    · refine ⟨_, rfl, rfl, _, rfl, ite2 (fun _ => ?_) (fun _ => ?_)⟩
      · -- marks
        refine ⟨_, rfl, (n : Int), rfl, by omega, by omega, fun D nD => ?_⟩
        have Dp : D ≠ p := w1.ne nD
        have nD0 : H D = none := w1.free nD
        refine lc_range (lo := 0) (n := n) (fun i H' => Drew K p a ns H H' ∧ ∃ hs : List Nat, H' D = some (.lst (vN hs)) ∧ hs.length ≤ i ∧ hs.Pairwise (· < ·) ∧ ∀ h ∈ hs, h < i)
          ⟨w1.put d nD0 Dp, [], upd_same, Nat.zero_le _, .nil, fun h q => (by cases q)⟩ ?turn ?rest
        case turn =>
          rintro i H2 hi ⟨w2, hs, eD, lh, hp, hb⟩
          refine ⟨rfl, _, rfl, p, a, ns, 2, rfl, w2.d, by decide, by decide, fun x H3 x0 x1 w3 => ⟨rfl, _, rfl, ?_⟩⟩
          have eD3 := w3.b _ _ Dp eD
          refine ite2 (fun _ => ?_) (fun _ => ?_)
          · refine ⟨_, rfl, _, eD3, by rw [List.length_map, sizeLine_eq]; omega, (w2.trans w3).put d nD0 Dp, hs ++ [i], ?_, by rw [List.length_append]; exact Nat.succ_le_succ lh, ?_, fun h q => ?_⟩
            · rw [upd_same]
              have e1 : (0 + (i : Int)) = ((i : Nat) : Int) := by omega
              rw [e1]
              show some (HO.lst (vN hs ++ [V.int ((i : Nat) : Int)])) = some (HO.lst (vN (hs ++ [i])))
              unfold vN
              rw [List.map_append]
              rfl
            · rw [List.pairwise_append]
              refine ⟨hp, List.pairwise_singleton _ _, fun x hx y hy => ?_⟩
              rw [List.mem_singleton.mp hy]
              exact hb x hx
            · rcases List.mem_append.mp q with q | q
              · have := hb h q
                omega
              · rw [List.mem_singleton.mp q]
                omega
          · exact ⟨w2.trans w3, hs, eD3, by omega, hp, fun h q => by have := hb h q; omega⟩
        case rest =>
          rintro H2 ⟨w2, hs, eD, lh, hp, hb⟩
          refine ⟨D, _, rfl, .inl ⟨SqL.of eD, fun u nu => ⟨by show 2 ≤ sizeLine; decide, fun t nt => ?_⟩⟩⟩
          have sU := (same_upd (o := .tup (vN hs)) nu).trans (same_upd (o := .tup [V.str sMarks, .ref u]) nt)
          refine k t (.marks hs) _ (w2.same sU) (w2.free ?_) ⟨u, upd_same, (same_upd nt) _ _ upd_same⟩ ⟨hp, hb⟩
          cases e : H2 t with
          | none => rfl
          | some o =>
            rw [(same_upd (o := .tup (vN hs)) nu) _ _ e] at nt
            cases nt
      · exact ⟨by show 1 ≤ sizeLine; decide, fun t nt => k t .keeps _ (w1.same (same_upd nt)) (w1.free nt) upd_same trivial⟩
end
end Sk


namespace Sk
open PySem PySem.Spec PyProof.Rows L2
/-- values drawn -/
def spValues (K : PySem.W.Frag) : Sp := fun vs H Q _ => ∃ (p a : Addr) (ns : List Int) (m : Int), vs = [.ref p, .int m] ∧ Dice K H p a ns ∧ 0 ≤ m ∧ m ≤ 1000 ∧
  ∀ (D : Addr) (xs : List Int) (H' : Hp), Drew K p a ns H H' → H D = none → H' D = some (.lst (xs.map V.int)) → xs.length ≤ m → (∀ x ∈ xs, 0 ≤ x ∧ x < 100) → Q (.ref D) H'
def spDeed (K : PySem.W.Frag) : Sp := fun vs H Q _ => ∃ (p a : Addr) (ns : List Int), vs = [.ref p] ∧ Dice K H p a ns ∧
  ∀ (t : Addr) (d : Deed) (H' : Hp), Drew K p a ns H H' → H t = none → H' t = some (.tup (rowV d.row)) → d.fit → Q (.ref t) H'
section
variable {P : Program} {w : World} {K : PySem.W.Frag} {mg : Str → Option Value} {base : Heap} {f : Addr} {fd : FuncData}
theorem scValues : FnScope ["_law_d", "_law_most", "_law_k"] ["_law_d", "_law_most"] (defScope sValues) := ⟨rfl, rfl, rfl, by decide +kernel, rfl, by decide +kernel, by decide +kernel⟩
theorem ok_values {fN : Addr} {fdN : FuncData} (F : FnP K "_law_values" "_law_values" sValues f fd) (FN : FnP K "_law_next" "_law_next" sNext fN fdN) (gN : mg "_law_next" = some (.ref fN)) (mL : mg "len" = none) (mR : mg "range" = none) :
    FnOk P w K mg base CX0 2 f fd ["_law_d", "_law_most"] (spValues K) := by
  have G : FnOk P w K mg base CX0 1 fN fdN ["_law_dice_here", "_law_many"] (spNext K) := ok_next FN mL
  have b : Binds K fdN ["_law_dice_here", "_law_many"] [] := FN.bindsN fun _ _ _ _ _ _ us hl => match us, hl with | [_, _], _ => rfl
  refine fok F scValues (fun vs H Q E h => ?_) (fun cdv A outer s H vs Q E hr h => ?_)
  · obtain ⟨p, a, ns, m, rfl, _⟩ := h
    rfl
  · obtain ⟨p, a, ns, m, rfl, d, m0, m1, k⟩ := h
    refine ⟨_, pss_one (ps_ret (pe_lc (own := [("_law_k", 2)]) (g := gName 2) (tt := tYes) rfl scValues.nd
        (pi_range1 (by rfl) mR (pa_cons (pe_call G hr rfl gN FN.kp b .nil pass0 (pa_cons (pv 0) (pa_cons (pe_op op_add (pv 1) pe_int) pa_nil))) pa_nil))
        (blkOk_by (N := ["_law_d", "_law_most", "_law_k"]) (sc := defScope sValues) (by decide +kernel)) (fun _ _ _ _ _ => pg_name (i := 2) scValues.nd rfl (Or.inl rfl)) (fun _ _ _ _ _ => pts_nil)
        (fun _ _ _ _ _ => pe_call G hr rfl gN FN.kp b .nil pass0 (pa_cons (pv 0) (pa_cons pe_int pa_nil))))), ?_⟩
    refine ⟨_, rfl, _, rfl, _, _, rfl, rfl, p, a, ns, _, rfl, d, by omega, by omega, fun n H1 n0 n1 r1 => ⟨n, rfl, by omega, by omega, fun D nD => ?_⟩⟩
    have nD0 : H D = none := r1.free nD
    have neD : D ≠ p := r1.ne nD
    refine lc_range (lo := 0) (n := n.toNat) (fun i H' => Drew K p a ns H H' ∧ ∃ xs : List Int, H' D = some (.lst (xs.map V.int)) ∧ xs.length = i ∧ ∀ x ∈ xs, 0 ≤ x ∧ x < 100)
      ⟨r1.put d nD0 neD, [], upd_same, rfl, fun x h => by cases h⟩ (fun i H' hi ⟨r2, xs, e, l, q⟩ => ⟨rfl, tyes ⟨_, rfl, p, a, ns, 100, rfl, r2.d, by decide, by decide, fun x H2 x0 x1 r3 => ?_⟩⟩) (fun H' ⟨r2, xs, e, l, q⟩ => k D xs H' r2 nD0 e (by omega) q)
    have e2 : H2 D = some (.lst (xs.map V.int)) := r3.b D _ neD e
    refine ⟨_, e2, ?_, (r2.trans r3).put d nD0 neD, xs ++ [x], ?_, ?_, fun y hy => ?_⟩
    · rw [List.length_map, sizeLine_eq]
      omega
    · rw [upd_same]
      simp
    · simp [l]
    · rcases List.mem_append.mp hy with z | z
      · exact q y z
      · rw [List.mem_singleton.mp z]
        exact ⟨x0, x1⟩
theorem scDeed : FnScope ["_law_d"] ["_law_d"] (defScope sDeed) := ⟨rfl, rfl, rfl, by decide +kernel, rfl, by decide +kernel, by decide +kernel⟩
theorem ok_deed_ {fN : Addr} {fdN : FuncData} (F : FnP K "_law_deed" "_law_deed" sDeed f fd) (FN : FnP K "_law_next" "_law_next" sNext fN fdN) (gN : mg "_law_next" = some (.ref fN)) (mL : mg "len" = none) : FnOk P w K mg base CX0 2 f fd ["_law_d"] (spDeed K) := by
  have G : FnOk P w K mg base CX0 1 fN fdN ["_law_dice_here", "_law_many"] (spNext K) := ok_next FN mL
  have b : Binds K fdN ["_law_dice_here", "_law_many"] [] := FN.bindsN fun _ _ _ _ _ _ us hl => match us, hl with | [_, _], _ => rfl
  refine fok F scDeed (fun vs H Q E h => ?_) (fun cdv A outer s H vs Q E hr h => ?_)
  · obtain ⟨p, a, ns, rfl, _⟩ := h
    rfl
  · obtain ⟨p, a, ns, rfl, d, k⟩ := h
    refine ⟨_, pss_cons (ps_if (pt_cmpR op_eq (pe_call G hr rfl gN FN.kp b .nil pass0 (pa_cons (pv 0) (pa_cons pe_int pa_nil))) pe_int (nomark _))
        (pss_one (ps_ret (pe_tup (pa_cons pe_str (pa_cons (pe_call G hr rfl gN FN.kp b .nil pass0 (pa_cons (pv 0) (pa_cons pe_int pa_nil))) pa_nil))))) pss_nil)
      (pss_one (ps_ret (pe_tup (pa_cons pe_str pa_nil)))), ?_⟩
    refine ⟨_, rfl, p, a, ns, 3, rfl, d, by decide, by decide, fun n H1 n0 n1 r1 => ⟨rfl, _, rfl, ?_⟩⟩
    refine ite2 (fun _ => ?_) (fun _ => ?_)
    · refine ⟨_, rfl, p, a, ns, 100, rfl, r1.d, by decide, by decide, fun x H2 x0 x1 r2 => ⟨by show 2 ≤ sizeLine; decide, fun t nt => ?_⟩⟩
      exact k t (.push x) _ ((r1.trans r2).same (same_upd nt)) ((r1.trans r2).free nt) upd_same ⟨x0, x1⟩
    · exact ⟨by show 1 ≤ sizeLine; decide, fun t nt => k t .pop _ (r1.same (same_upd nt)) (r1.free nt) upd_same trivial⟩
end
end Sk


namespace Sk
open PySem PySem.Spec PyProof.Rows L2
def staleP (st : Stp) (S : PSt) (x : PHand) : Bool := match st with
  | .exchanges c => linkAt S.nexts x.top != c
  | _ => false
def Stp.say : Stp → List V
  | .ends a => [a]
  | _ => []
/-- all that holds of a machine at work -/
structure Okm (r : Rule) (n : Nat) (s : Mach) : Prop where
  base : Base s
  bnd : Bnd n s
  le : AllLe s
  fit : Fitm r s
  few : s.hands.length ≤ 3
  ans : ∀ h ∈ s.hands, ∀ a ∈ h.said, IsAns a
section
variable {r : Rule} {s : Mach} {i n : Nat} {h : Hand}
/-- what a step leaves besides the state -/
structure GoOut (r : Rule) (s : Mach) (i : Nat) (h : Hand) (st : Stp) (s' : Mach) : Prop where
  ends : s'.ends = s.ends ++ (if st.dec = true then [(i, h.at_)] else [])
  hand : ∃ h', s'.hands = s.hands.set i h' ∧ h'.deeds = h.deeds ∧ h'.said = h.said ++ st.say ∧ s'.stale = (s.stale || staleP st s'.ps h'.ph) ∧ (st.isEx = true → 1 ≤ h'.ph.top ∧ h'.ph.top ≤ s'.links.length)
  ok : st.Ok
theorem set_self (hi : s.hands[i]? = some h) : s.hands.set i h = s.hands := by
  obtain ⟨l, e⟩ := List.getElem?_eq_some_iff.mp hi
  rw [← e, List.set_getElem_self]
theorem Go.out {st : Stp} {s' : Mach} (O : Okm r n s) (hi : s.hands[i]? = some h) (G : Go r s i h st s') : GoOut r s i h st s' := by
  have nil : ∀ l : List (Nat × Nat), l = l ++ [] := fun l => (List.append_nil l).symm
  have nilV : ∀ l : List V, l = l ++ [] := fun l => (List.append_nil l).symm
  have or0 : s.stale = (s.stale || false) := (Bool.or_false _).symm
  have no : ∀ {A : Prop}, false = true → A := fun z => by cases z
  cases G with
  | rests e => exact ⟨nil _, ⟨h, (set_self hi).symm, rfl, nilV _, or0, no⟩, trivial⟩
  | takesNew v e hc hp => exact ⟨nil _, ⟨_, rfl, rfl, nilV _, or0, no⟩, trivial⟩
  | takesFree v c e hc hp => exact ⟨nil _, ⟨_, rfl, rfl, nilV _, or0, no⟩, trivial⟩
  | readsPush v e hc hs => exact ⟨nil _, ⟨_, rfl, rfl, nilV _, or0, no⟩, trivial⟩
  | links v t k e hc hs hf => exact ⟨nil _, ⟨_, rfl, rfl, nilV _, or0, no⟩, trivial⟩
  | pushes v f e hc hs hf => exact ⟨rfl, ⟨_, rfl, rfl, rfl, or0, no⟩, .inl rfl⟩
  | missPush v t k f e hc hs hf hn => exact ⟨nil _, ⟨_, rfl, rfl, nilV _, or0, no⟩, trivial⟩
  | meets e hs ht => exact ⟨rfl, ⟨_, rfl, rfl, rfl, or0, no⟩, .inr (.inl rfl)⟩
  | readsPop e hs ht => exact ⟨nil _, ⟨_, rfl, rfl, nilV _, or0, no⟩, trivial⟩
  | lets t k e hs hc => exact ⟨nil _, ⟨_, rfl, rfl, rfl, or0, no⟩, .inr (.inr ⟨_, rfl⟩)⟩
  | marks t k e hs hc hm hl hk => exact ⟨nil _, ⟨_, rfl, rfl, nilV _, or0, no⟩, trivial⟩
  | looks t k e hs hc hm hl hk ht => exact ⟨nil _, ⟨_, rfl, rfl, nilV _, or0, no⟩, trivial⟩
  | looksNot t k e hs hc hm hl hk ht => exact ⟨nil _, ⟨_, rfl, rfl, nilV _, or0, no⟩, trivial⟩
  | follows t k e hs hc hm hf => exact ⟨nil _, ⟨_, rfl, rfl, nilV _, or0, no⟩, trivial⟩
  | pops f e hs hc hm hf =>
    have t0 := O.base.seen i h hi e _ _ hs
    have ex2 : ({ h with cell := s.top } : Hand).ph = ⟨h.at_, 4, 0, s.top, 0, 0, h.mark⟩ := by unfold Hand.ph; dsimp only; rw [e]; dsimp only; rw [hs]; dsimp only; rw [if_pos t0]
    refine ⟨rfl, ⟨{ h with cell := s.top }, rfl, rfl, nilV _, ?_, fun _ => ?_⟩, trivial⟩
    · rw [ex2]
      rfl
    · rw [ex2]
      have := O.bnd.top
      have l := O.bnd.len
      show 1 ≤ s.top ∧ s.top ≤ s.links.length
      omega
  | missPop t k f e hs hc hm hf hn => exact ⟨nil _, ⟨_, rfl, rfl, nilV _, or0, no⟩, trivial⟩
theorem Okm.turn (O : Okm r n s) : Okm r (n + 1) (turn r s i).2 := by
  refine ⟨O.base.turn, O.bnd.turn, O.le.turn, O.fit.turn O.base, by rw [turn_many]; exact O.few, ?_⟩
  unfold Sk.turn
  split
  · exact O.ans
  · rename_i h hi
    obtain ⟨h', e1, e2, e3, _⟩ := (Go.out O hi (go_kind r s i h)).hand
    have ok := (Go.out O hi (go_kind r s i h)).ok
    intro g hg a ha
    rw [e1] at hg
    rcases mem_set hg with z | z
    · exact O.ans g z a ha
    · rw [z, e3] at ha
      rcases List.mem_append.mp ha with q | q
      · exact O.ans h (List.mem_of_getElem? hi) a q
      · generalize (go r s i h).1 = st at ok q
        cases st with
        | ends b =>
          rw [List.mem_singleton.mp q]
          exact ok
        | _ => cases q
theorem Okm.up {m : Nat} (O : Okm r n s) (h : n ≤ m) : Okm r m s := ⟨O.base, O.bnd.up h, O.le, O.fit, O.few, O.ans⟩
theorem Okm.play : ∀ {w : List Nat} {s : Mach} {n : Nat}, Okm r n s → Okm r (n + w.length) (play r s w).2
  | [], s, n, O => O
  | i :: w, s, n, O => by
    have := Okm.play (w := w) (O.turn (i := i))
    rw [List.length_cons]
    show Okm r (n + (w.length + 1)) (Sk.play r (Sk.turn r s i).2 w).2
    rw [show n + (w.length + 1) = n + 1 + w.length by omega]
    exact this
theorem Okm.begun (xs : List Int) (ps : List (List Deed)) (h : ps.length ≤ 3) : Okm r xs.length (Mach.begun xs ps) := by
  refine ⟨Base.begun xs ps, Bnd.begun xs ps, AllLe.begun xs ps, Fitm.begun xs ps, by show (ps.map Hand.new).length ≤ 3; rw [List.length_map]; exact h, fun g hg a ha => ?_⟩
  obtain ⟨ds, _, e⟩ := List.mem_map.mp (show g ∈ ps.map Hand.new from hg)
  rw [← e] at ha
  cases ha
end
end Sk


/-! The machine without counts, marks, phases: what a step may come to. -/
namespace Sk
open PySem PySem.Spec PyProof.Rows L2
/-- a hand: how many deeds it has done, its cell, 1 more than the top that it read -/
structure AH where
  a : Nat
  c : Nat
  t : Nat
structure AS where
  top : Nat
  ls : List Nat
  fr : List Nat
  hs : List AH
/-- a list without the first x -/
def erN (x : Nat) : List Nat → List Nat
  | [] => []
  | y :: r => match Nat.beq y x with
    | true => r
    | false => y :: erN x r
theorem erN_eq (x : Nat) : ∀ l : List Nat, erN x l = l.erase x
  | [] => rfl
  | y :: r => by
    unfold erN
    cases h : Nat.beq y x with
    | true =>
      have : y = x := Nat.eq_of_beq_eq_true h
      subst this
      simp
    | false =>
      have : y ≠ x := Nat.ne_of_beq_eq_false h
      rw [List.erase_cons_tail (by simpa using this), erN_eq x r]
/-- what hand i's step may come to, where that is something else; k: its deed is a push -/
def asucc1 (S : AS) (i : Nat) (h : AH) : Option Bool → List AS
  | none => []
  | some true => match h.c with
    | 0 => ⟨S.top, S.ls ++ [0], S.fr, S.hs.set i ⟨h.a, S.ls.length + 1, 0⟩⟩ :: S.fr.map fun f => ⟨S.top, S.ls.set (f - 1) 0, erN f S.fr, S.hs.set i ⟨h.a, f, 0⟩⟩
    | c + 1 => match h.t with
      | 0 => [⟨S.top, S.ls, S.fr, S.hs.set i ⟨h.a, c + 1, S.top + 1⟩⟩]
      | t + 1 => ⟨S.top, S.ls, S.fr, S.hs.set i ⟨h.a, c + 1, 0⟩⟩ :: (match Nat.beq S.top t with
        | true => [⟨c + 1, S.ls.set c t, S.fr, S.hs.set i ⟨h.a + 1, 0, 0⟩⟩]
        | false => [])
  | some false => match h.c with
    | c + 1 => [⟨S.top, S.ls, S.fr ++ [c + 1], S.hs.set i ⟨h.a + 1, 0, 0⟩⟩]
    | 0 => match h.t with
      | 0 => match S.top with
        | 0 => [⟨0, S.ls, S.fr, S.hs.set i ⟨h.a + 1, 0, 0⟩⟩]
        | p + 1 => [⟨p + 1, S.ls, S.fr, S.hs.set i ⟨h.a, 0, p + 2⟩⟩]
      | t + 1 => ⟨S.top, S.ls, S.fr, S.hs.set i ⟨h.a, 0, 0⟩⟩ :: (match Nat.beq S.top t with
        | true => [⟨linkAt S.ls t, S.ls, S.fr, S.hs.set i ⟨h.a, t, 0⟩⟩]
        | false => [])
def pushing (h : Hand) : Bool := match h.deeds[h.at_]? with
  | some (.push _) => true
  | _ => false
def ahT (h : Hand) : Nat := match h.seen with
  | none => 0
  | some (t, _) => if pend h = true then 0 else t + 1
def ah (h : Hand) : AH := ⟨h.at_, h.cell, ahT h⟩
/-- a push's own cell -/
def hp (hs : List Hand) (c : Nat) : Bool := hs.any fun h => pushing h && h.cell == c
def Deed.isPush : Deed → Bool
  | .push _ => true
  | .pop => false
structure Abs (s : Mach) (A : AS) : Prop where
  top : A.top = s.top
  fr : A.fr = s.free
  hs : A.hs = s.hands.map ah
  len : A.ls.length = s.links.length
  ls : ∀ c, 1 ≤ c → c ≤ s.links.length → linkAt A.ls c = if hp s.hands c = true then 0 else linkAt s.links c
theorem hp_set : ∀ {hs : List Hand} {i : Nat} {h h' : Hand} {c : Nat}, hs[i]? = some h → (pushing h' && h'.cell == c) = (pushing h && h.cell == c) → hp (hs.set i h') c = hp hs c
  | [], i, h, h', c, e, _ => by simp at e
  | g :: hs, 0, h, h', c, e, q => by
    simp at e
    subst e
    show ((pushing h' && h'.cell == c) || hp hs c) = ((pushing g && g.cell == c) || hp hs c)
    rw [q]
  | g :: hs, i + 1, h, h', c, e, q => by
    show ((pushing g && g.cell == c) || hp (hs.set i h') c) = ((pushing g && g.cell == c) || hp hs c)
    rw [hp_set (by simpa using e) q]
theorem hp_true {hs : List Hand} {i : Nat} {h : Hand} {c : Nat} (e : hs[i]? = some h) (p : pushing h = true) (q : h.cell = c) : hp hs c = true := by
  unfold hp
  rw [List.any_eq_true]
  exact ⟨h, List.mem_of_getElem? e, by simp [p, q]⟩
theorem hp_false {hs : List Hand} {c : Nat} (k : ∀ h ∈ hs, h.cell ≠ c) : hp hs c = false := by
  unfold hp
  rw [List.any_eq_false]
  intro h hh
  simp [k h hh]
section
variable {xs : List Int} {ps : List (List Deed)} {s s' : Mach} {P : List Nat} {i : Nat} {h : Hand} {r : Rule} {A : AS} {st : Stp}
theorem push_of {v : Int} (e : h.deeds[h.at_]? = some (.push v)) : pushing h = true ∧ pend h = false := by
  unfold pushing pend
  rw [e]
  exact ⟨rfl, rfl⟩
theorem pop_of (e : h.deeds[h.at_]? = some .pop) : pushing h = false := by
  unfold pushing
  rw [e]
theorem Abs.hget (B : Abs s A) (hi : s.hands[i]? = some h) : A.hs[i]? = some (ah h) := by
  rw [B.hs, List.getElem?_map, hi]
  rfl
theorem Abs.hset (B : Abs s A) (h' : Hand) : A.hs.set i (ah h') = (s.hands.set i h').map ah := by rw [B.hs, List.map_set]
/-- all but the hand as it was -/
theorem Abs.same (B : Abs s A) (hi : s.hands[i]? = some h) {h' : Hand} (e1 : s'.top = s.top) (e2 : s'.free = s.free) (e3 : s'.links = s.links) (e4 : s'.hands = s.hands.set i h') (q : ∀ c, 1 ≤ c → (pushing h' && h'.cell == c) = (pushing h && h.cell == c)) :
    Abs s' ⟨A.top, A.ls, A.fr, A.hs.set i (ah h')⟩ := by
  refine ⟨B.top.trans e1.symm, B.fr.trans e2.symm, by rw [e4]; exact B.hset h', by rw [e3]; exact B.len, fun c c1 c2 => ?_⟩
  rw [e4, hp_set hi (q c c1), e3]
  rw [e3] at c2
  exact B.ls c c1 c2
/-- nothing that is seen of it -/
theorem Abs.still (B : Abs s A) (hi : s.hands[i]? = some h) {h' : Hand} (e1 : s'.top = s.top) (e2 : s'.free = s.free) (e3 : s'.links = s.links) (e4 : s'.hands = s.hands.set i h') (e5 : ah h' = ah h) (q : pushing h' = pushing h) (q2 : h'.cell = h.cell) : Abs s' A := by
  have B2 := B.same (s' := s') hi e1 e2 e3 e4 (fun c _ => by rw [q, q2])
  have : A.hs.set i (ah h') = A.hs := by
    rw [e5]
    refine List.ext_getElem? fun j => ?_
    by_cases z : i = j
    · subst z
      rw [B.hget hi, List.getElem?_set_self (List.getElem?_eq_some_iff.mp (B.hget hi)).1]
    · rw [List.getElem?_set_ne z]
  rw [this] at B2
  exact B2
/-- a step, as it looks from there -/
theorem Abs.go (B : Abs s A) (I : Inv xs ps s P) (hi : s.hands[i]? = some h) (G : Go r s i h st s') (ns : s'.stale = false) (k : Option Bool) (hk : ∀ d, h.deeds[h.at_]? = some d → k = some d.isPush) :
    Abs s' A ∨ ∃ A', A' ∈ asucc1 A i (ah h) k ∧ Abs s' A' := by
  have H := I.hand i h hi
  cases G with
  | rests e => exact .inl B
  | takesNew v e hc hp0 =>
    have := hk _ e
    subst this
    refine .inr ⟨⟨A.top, A.ls ++ [0], A.fr, A.hs.set i (ah { h with cell := s.vals.length + 1 })⟩, ?_, ?_⟩
    · have sn := H.empty v e hc
      have e2 : ah { h with cell := s.vals.length + 1 } = ⟨h.at_, A.ls.length + 1, 0⟩ := by
        unfold ah ahT
        simp only [sn]
        rw [B.len, I.len]
      rw [e2]
      unfold asucc1
      simp only [Deed.isPush, ah, hc]
      exact List.mem_cons_self
    · refine ⟨B.top, B.fr, B.hset _, by rw [List.length_append, List.length_append, B.len], fun c c1 c2 => ?_⟩
      rw [List.length_append] at c2
      have c2 : c ≤ s.links.length + 1 := c2
      have p2 : pushing { h with cell := s.vals.length + 1 } = true := (push_of (h := { h with cell := s.vals.length + 1 }) e).1
      by_cases q : c = s.links.length + 1
      · rw [if_pos (hp_true (i := i) (h := { h with cell := s.vals.length + 1 }) (by rw [List.getElem?_set_self (lt_of_get hi)]) p2 (by show s.vals.length + 1 = c; rw [I.len, q]))]
        unfold linkAt
        rw [q, show s.links.length + 1 - 1 = A.ls.length by rw [B.len]; omega]
        simp [List.getD]
      · have c3 : c ≤ s.links.length := by omega
        have e3 : hp (s.hands.set i { h with cell := s.vals.length + 1 }) c = hp s.hands c := hp_set hi (by
          have z1 : ({ h with cell := s.vals.length + 1 } : Hand).cell ≠ c := by show s.vals.length + 1 ≠ c; rw [I.len]; omega
          have z2 : h.cell ≠ c := by omega
          rw [beq_eq_false_iff_ne.mpr z1, beq_eq_false_iff_ne.mpr z2, Bool.and_false, Bool.and_false])
        show linkAt (A.ls ++ [0]) c = if hp (s.hands.set i _) c = true then 0 else linkAt (s.links ++ [0]) c
        rw [e3, linkAt_append c1 (by rw [B.len]; exact c3), linkAt_append c1 c3]
        exact B.ls c c1 c3
  | takesFree v c0 e hc hp0 =>
    have := hk _ e
    subst this
    have cf := pick_mem hp0
    obtain ⟨f1, f2, f3, f4, f5, f6⟩ := I.freeIn cf
    refine .inr ⟨⟨A.top, A.ls.set (c0 - 1) 0, A.fr.erase c0, A.hs.set i (ah { h with cell := c0 })⟩, ?_, ?_⟩
    · have sn := H.empty v e hc
      have e2 : ah { h with cell := c0 } = ⟨h.at_, c0, 0⟩ := by
        unfold ah ahT
        simp only [sn]
      rw [e2, ← erN_eq]
      unfold asucc1
      simp only [Deed.isPush, ah, hc]
      exact List.mem_cons_of_mem _ (List.mem_map.mpr ⟨c0, by rw [B.fr]; exact cf, rfl⟩)
    · refine ⟨B.top, by show A.fr.erase c0 = s.free.erase c0; rw [B.fr], B.hset _, by show (A.ls.set _ _).length = _; rw [List.length_set]; exact B.len, fun c c1 c2 => ?_⟩
      have c2 : c ≤ s.links.length := c2
      have p2 : pushing { h with cell := c0 } = true := (push_of (h := { h with cell := c0 }) e).1
      show linkAt (A.ls.set (c0 - 1) 0) c = if hp (s.hands.set i { h with cell := c0 }) c = true then 0 else linkAt s.links c
      by_cases q : c = c0
      · subst q
        rw [if_pos (hp_true (i := i) (h := { h with cell := c }) (by rw [List.getElem?_set_self (lt_of_get hi)]) p2 rfl)]
        exact getD_set_eq (by rw [B.len]; omega)
      · have e3 : hp (s.hands.set i { h with cell := c0 }) c = hp s.hands c := hp_set hi (by
          have z1 : ({ h with cell := c0 } : Hand).cell ≠ c := fun z => q z.symm
          have z2 : h.cell ≠ c := by omega
          rw [beq_eq_false_iff_ne.mpr z1, beq_eq_false_iff_ne.mpr z2, Bool.and_false, Bool.and_false])
        rw [e3, linkAt_set f2 c1 (fun z => q z.symm)]
        exact B.ls c c1 c2
  | readsPush v e hc hs =>
    have := hk _ e
    subst this
    obtain ⟨p1, p2⟩ := push_of e
    have e2 : ah { h with seen := some (s.top, s.count) } = ⟨h.at_, h.cell, A.top + 1⟩ := by
      have : pend { h with seen := some (s.top, s.count) } = pend h := rfl
      unfold ah ahT
      simp only [this, p2, B.top]
      rfl
    have B2 := B.same (s' := s.put i { h with seen := some (s.top, s.count) }) hi rfl rfl rfl rfl (fun c _ => rfl)
    rw [e2] at B2
    refine .inr ⟨_, ?_, B2⟩
    unfold asucc1
    have e4 : ahT h = 0 := by unfold ahT; rw [hs]
    obtain ⟨c, ec⟩ : ∃ c, h.cell = c + 1 := ⟨h.cell - 1, by omega⟩
    simp only [Deed.isPush, ah, e4, ec]
    exact List.mem_cons_self
  | links v t k2 e hc hs hf =>
    obtain ⟨p1, p2⟩ := push_of e
    refine .inl ⟨B.top, B.fr, ?_, by show _ = (s.links.set _ _).length; rw [List.length_set]; exact B.len, fun c c1 c2 => ?_⟩
    · have e2 : ah { h with follow := some t } = ah h := rfl
      show A.hs = (s.hands.set i { h with follow := some t }).map ah
      rw [← B.hset, e2]
      refine List.ext_getElem? fun j => ?_
      by_cases z : i = j
      · subst z
        rw [B.hget hi, List.getElem?_set_self (List.getElem?_eq_some_iff.mp (B.hget hi)).1]
      · rw [List.getElem?_set_ne z]
    · have c2 : c ≤ s.links.length := by
        have z : c ≤ (s.links.set (h.cell - 1) t).length := c2
        rwa [List.length_set] at z
      show linkAt A.ls c = if hp (s.hands.set i { h with follow := some t }) c = true then 0 else linkAt (s.links.set (h.cell - 1) t) c
      rw [hp_set hi (show (pushing { h with follow := some t } && ({ h with follow := some t } : Hand).cell == c) = (pushing h && h.cell == c) from rfl)]
      have := B.ls c c1 c2
      by_cases q : h.cell = c
      · rw [if_pos (hp_true hi p1 q)] at this ⊢
        exact this
      · rw [linkAt_set (by omega) c1 q]
        exact this
  | pushes v f e hc hs hf =>
    have := hk _ e
    subst this
    obtain ⟨p1, p2⟩ := push_of e
    obtain ⟨_, hfol⟩ := H.pushed v e hc
    obtain ⟨l1, k2, l2⟩ := hfol f hf
    rw [hs] at l2
    have ef : f = s.top := ((Prod.mk.inj (Option.some.inj l2)).1).symm
    obtain ⟨n1, n2, n3, n4⟩ := I.notin (c := h.cell) hi hc
    obtain ⟨c, ec⟩ : ∃ c, h.cell = c + 1 := ⟨h.cell - 1, by omega⟩
    have e4 : ahT h = s.top + 1 := by
      unfold ahT
      rw [hs]
      simp only [p2]
      rfl
    refine .inr ⟨⟨c + 1, A.ls.set c s.top, A.fr, A.hs.set i (ah (h.did (.str "done")))⟩, ?_, ?_⟩
    · have e2 : ah (h.did (.str "done")) = ⟨h.at_ + 1, 0, 0⟩ := rfl
      rw [e2]
      unfold asucc1
      simp only [Deed.isPush, ah, e4, ec]
      rw [show Nat.beq A.top s.top = true by rw [B.top]; exact Nat.beq_refl _]
      exact List.mem_cons_of_mem _ List.mem_cons_self
    · refine ⟨ec.symm, B.fr, B.hset _, by show (A.ls.set _ _).length = _; rw [List.length_set]; exact B.len, fun d c1 c2 => ?_⟩
      have c2 : d ≤ s.links.length := c2
      show linkAt (A.ls.set c s.top) d = if hp (s.hands.set i (h.did (.str "done"))) d = true then 0 else linkAt s.links d
      have z1 : ∀ d, 1 ≤ d → (h.did (.str "done")).cell ≠ d := fun d hd z => by
        have : (0 : Nat) = d := z
        omega
      by_cases q : d = h.cell
      · subst q
        rw [hp_false fun g hg => ?_]
        · rw [if_neg (by decide), l1, ef, show c = h.cell - 1 by omega]
          exact getD_set_eq (by rw [B.len]; omega)
        · obtain ⟨j, hj⟩ := List.getElem?_of_mem hg
          rcases get_set_cases (lt_of_get hi) hj with ⟨_, z⟩ | ⟨z, zz⟩
          · rw [z]; exact z1 _ c1
          · exact I.other hi zz (fun y => z y.symm) hc
      · have e3 : hp (s.hands.set i (h.did (.str "done"))) d = hp s.hands d := hp_set hi (by
          rw [beq_eq_false_iff_ne.mpr (z1 d c1), beq_eq_false_iff_ne.mpr (fun z => q z.symm), Bool.and_false, Bool.and_false])
        rw [e3, show c = h.cell - 1 by omega, linkAt_set n3 c1 (fun z => q z.symm)]
        exact B.ls d c1 c2
  | missPush v t k2 f e hc hs hf hn =>
    have := hk _ e
    subst this
    obtain ⟨p1, p2⟩ := push_of e
    have B2 := B.same (s' := s.put i h.again) hi rfl rfl rfl rfl (fun c _ => rfl)
    have e2 : ah h.again = ⟨h.at_, h.cell, 0⟩ := rfl
    rw [e2] at B2
    refine .inr ⟨_, ?_, B2⟩
    have e4 : ahT h = t + 1 := by
      unfold ahT
      rw [hs]
      simp only [p2]
      rfl
    obtain ⟨c, ec⟩ : ∃ c, h.cell = c + 1 := ⟨h.cell - 1, by omega⟩
    unfold asucc1
    simp only [Deed.isPush, ah, e4, ec]
    exact List.mem_cons_self
  | meets e hs ht =>
    have := hk _ e
    subst this
    have pn := pop_of e
    have c0 : h.cell = 0 := Classical.byContradiction fun z => H.kept e z hs
    have e2 : ah (h.did .non) = ⟨h.at_ + 1, 0, 0⟩ := rfl
    have B2 := B.same (s' := { s with ends := s.ends ++ [(i, h.at_)], hands := s.hands.set i (h.did .non) }) hi rfl rfl rfl rfl (fun c c1 => by
      rw [pn, show ((h.did .non).cell == c) = false from beq_eq_false_iff_ne.mpr (by show (0 : Nat) ≠ c; omega), Bool.and_false, Bool.false_and])
    rw [e2] at B2
    refine .inr ⟨_, ?_, B2⟩
    have e4 : ahT h = 0 := by unfold ahT; rw [hs]
    have e5 : A.top = 0 := by rw [B.top]; exact ht
    unfold asucc1
    simp only [Deed.isPush, ah, e4, c0, e5]
    exact List.mem_cons_self
  | readsPop e hs ht =>
    have := hk _ e
    subst this
    have c0 : h.cell = 0 := Classical.byContradiction fun z => H.kept e z hs
    have p2 : pend h = false := by
      unfold pend
      rw [e]
      simp [c0]
    have e2 : ah { h with seen := some (s.top, s.count) } = ⟨h.at_, 0, s.top + 1⟩ := by
      have : pend { h with seen := some (s.top, s.count) } = pend h := rfl
      show ({ a := h.at_, c := h.cell, t := if pend { h with seen := some (s.top, s.count) } = true then 0 else s.top + 1 } : AH) = _
      rw [this, p2, c0]
      rfl
    have B2 := B.same (s' := s.put i { h with seen := some (s.top, s.count) }) hi rfl rfl rfl rfl (fun c _ => rfl)
    rw [e2] at B2
    refine .inr ⟨_, ?_, B2⟩
    have e4 : ahT h = 0 := by unfold ahT; rw [hs]
    obtain ⟨p, ep⟩ : ∃ p, s.top = p + 1 := ⟨s.top - 1, by omega⟩
    have e5 : A.top = p + 1 := by rw [B.top]; exact ep
    unfold asucc1
    simp only [Deed.isPush, ah, e4, c0, e5, ep]
    exact List.mem_cons_self
  | lets t k2 e hs hc =>
    have := hk _ e
    subst this
    have pn := pop_of e
    have e2 : ah (h.did (.int (valAt s.vals h.cell))) = ⟨h.at_ + 1, 0, 0⟩ := rfl
    obtain ⟨c, ec⟩ : ∃ c, h.cell = c + 1 := ⟨h.cell - 1, by omega⟩
    refine .inr ⟨⟨A.top, A.ls, A.fr ++ [h.cell], A.hs.set i (ah (h.did (.int (valAt s.vals h.cell))))⟩, ?_, ?_⟩
    · rw [e2]
      unfold asucc1
      simp only [Deed.isPush, ah, ec]
      exact List.mem_cons_self
    · refine ⟨B.top, by show A.fr ++ [h.cell] = s.free ++ [h.cell]; rw [B.fr], B.hset _, B.len, fun d c1 c2 => ?_⟩
      show linkAt A.ls d = if hp (s.hands.set i _) d = true then 0 else linkAt s.links d
      rw [hp_set hi (by rw [pn, show ((h.did (.int (valAt s.vals h.cell))).cell == d) = false from beq_eq_false_iff_ne.mpr (by show (0 : Nat) ≠ d; omega), Bool.and_false, Bool.false_and])]
      exact B.ls d c1 c2
  | marks t k2 e hs hc hmk hl hne => exact .inl (B.still (h' := { h with mark := t }) hi rfl rfl rfl rfl rfl rfl rfl)
  | looks t k2 e hs hc hmk hl hne ht => exact .inl (B.still (h' := { h with looked := true }) hi rfl rfl rfl rfl rfl rfl rfl)
  | follows t k2 e hs hc hmk hf => exact .inl (B.still (h' := { h with follow := some (linkAt s.links t) }) hi rfl rfl rfl rfl rfl rfl rfl)
  | looksNot t k2 e hs hc hmk hl hne ht =>
    have := hk _ e
    subst this
    have B2 := B.same (s' := s.put i ({ h with looked := false } : Hand).again) hi rfl rfl rfl rfl (fun c _ => rfl)
    have e2 : ah ({ h with looked := false } : Hand).again = ⟨h.at_, 0, 0⟩ := by
      show (⟨h.at_, h.cell, 0⟩ : AH) = _
      rw [hc]
    rw [e2] at B2
    refine .inr ⟨_, ?_, B2⟩
    have p2 : pend h = false := by
      unfold pend
      rw [e]
      simp [hc]
    have e4 : ahT h = t + 1 := by
      unfold ahT
      rw [hs]
      simp only [p2]
      rfl
    unfold asucc1
    simp only [Deed.isPush, ah, e4, hc]
    exact List.mem_cons_self
  | pops f e hs hc hmk hf =>
    have := hk _ e
    subst this
    have pn := pop_of e
    have t0 : s.top ≠ 0 := H.seen e _ _ hs
    have p2 : pend h = false := by
      unfold pend
      rw [e]
      simp [hc]
    have e4 : ahT h = s.top + 1 := by
      unfold ahT
      rw [hs]
      simp only [p2]
      rfl
    have p3 : pend { h with cell := s.top } = true := by
      unfold pend
      show (match h.deeds[h.at_]? with | some .pop => decide (s.top ≠ 0) | _ => false) = true
      rw [e]
      simpa using t0
    have e2 : ah { h with cell := s.top } = ⟨h.at_, s.top, 0⟩ := by
      have z : ahT { h with cell := s.top } = 0 := by
        unfold ahT
        split
        · rfl
        · rw [if_pos p3]
      show ({ a := h.at_, c := s.top, t := ahT { h with cell := s.top } } : AH) = _
      rw [z]
    have tP : s.top ∈ P := by
      have := I.chain
      cases P with
      | nil => exact absurd this t0
      | cons c P => rw [this.1]; exact List.mem_cons_self
    obtain ⟨m1, m2, m3, m4⟩ := I.pileIn tP
    have nf : linkAt s.links s.top = f := by
      have z : (s.stale || (linkAt s.links s.top != f)) = false := ns
      rw [Bool.or_eq_false_iff] at z
      simpa using z.2
    have nh : hp s.hands s.top = false := hp_false fun g hg => by
      obtain ⟨j, hj⟩ := List.getElem?_of_mem hg
      exact I.cellNot m4 t0 hj
    refine .inr ⟨⟨f, A.ls, A.fr, A.hs.set i (ah { h with cell := s.top })⟩, ?_, ?_⟩
    · rw [e2]
      unfold asucc1
      simp only [Deed.isPush, ah, e4, hc]
      rw [show Nat.beq A.top s.top = true by rw [B.top]; exact Nat.beq_refl _]
      have := B.ls s.top m2 m3
      rw [nh, if_neg (by decide), nf] at this
      rw [this]
      exact List.mem_cons_of_mem _ List.mem_cons_self
    · refine ⟨rfl, B.fr, B.hset _, B.len, fun d c1 c2 => ?_⟩
      show linkAt A.ls d = if hp (s.hands.set i _) d = true then 0 else linkAt s.links d
      rw [hp_set hi (by
        rw [show pushing { h with cell := s.top } = false from pop_of (h := { h with cell := s.top }) e, pn, Bool.false_and, Bool.false_and])]
      exact B.ls d c1 c2
  | missPop t k2 f e hs hc hmk hf hn =>
    have := hk _ e
    subst this
    have B2 := B.same (s' := s.put i h.again) hi rfl rfl rfl rfl (fun c _ => rfl)
    have e2 : ah h.again = ⟨h.at_, 0, 0⟩ := by
      show (⟨h.at_, h.cell, 0⟩ : AH) = _
      rw [hc]
    rw [e2] at B2
    refine .inr ⟨_, ?_, B2⟩
    have p2 : pend h = false := by
      unfold pend
      rw [e]
      simp [hc]
    have e4 : ahT h = t + 1 := by
      unfold ahT
      rw [hs]
      simp only [p2]
      rfl
    unfold asucc1
    simp only [Deed.isPush, ah, e4, hc]
    exact List.mem_cons_self
end
end Sk


/-! How many states are come to: counted by going through them all. -/
namespace Sk
open PySem PySem.Spec PyProof.Rows L2
/-! ### a state as a number -/
/-- digits, the last one first -/
def encR : List Nat → Nat
  | [] => 1
  | d :: r => encR r * 1024 + d
theorem encR_pos : ∀ l, 1 ≤ encR l
  | [] => Nat.le_refl _
  | d :: r => by
    have := encR_pos r
    show 1 ≤ encR r * 1024 + d
    omega
theorem encR_inj : ∀ {l m : List Nat}, (∀ d ∈ l, d < 1024) → (∀ d ∈ m, d < 1024) → encR l = encR m → l = m
  | [], [], _, _, _ => rfl
  | [], d :: r, _, _, e => by
    have := encR_pos r
    have e : 1 = encR r * 1024 + d := e
    omega
  | d :: r, [], _, _, e => by
    have := encR_pos r
    have e : encR r * 1024 + d = 1 := e
    omega
  | d :: r, c :: q, h1, h2, e => by
    have a1 := h1 d List.mem_cons_self
    have a2 := h2 c List.mem_cons_self
    have e : encR r * 1024 + d = encR q * 1024 + c := e
    have e1 : encR r = encR q := by omega
    rw [encR_inj (fun x hx => h1 x (List.mem_cons_of_mem _ hx)) (fun x hx => h2 x (List.mem_cons_of_mem _ hx)) e1]
    have : d = c := by omega
    rw [this]
def PHand.dig (x : PHand) : List Nat := [x.num, x.phase, x.cell, x.top, x.count, x.fol, x.mark]
def PSt.dig (S : PSt) : List Nat := S.top :: S.count :: (S.nexts.map (· + 1) ++ 0 :: (S.free.map (· + 1) ++ 0 :: S.hands.flatMap PHand.dig))
def PSt.num (S : PSt) : Nat := encR S.dig
theorem split0 : ∀ {a b x y : List Nat}, a.map (· + 1) ++ 0 :: x = b.map (· + 1) ++ 0 :: y → a = b ∧ x = y
  | [], [], x, y, e => ⟨rfl, (List.cons.inj e).2⟩
  | [], c :: b, x, y, e => by
    have e : 0 :: x = (c + 1) :: (b.map (· + 1) ++ 0 :: y) := e
    have := (List.cons.inj e).1
    omega
  | c :: a, [], x, y, e => by
    have e : (c + 1) :: (a.map (· + 1) ++ 0 :: x) = 0 :: y := e
    have := (List.cons.inj e).1
    omega
  | c :: a, d :: b, x, y, e => by
    have e : (c + 1) :: (a.map (· + 1) ++ 0 :: x) = (d + 1) :: (b.map (· + 1) ++ 0 :: y) := e
    obtain ⟨e1, e2⟩ := List.cons.inj e
    obtain ⟨h1, h2⟩ := split0 e2
    have : c = d := by omega
    exact ⟨by rw [this, h1], h2⟩
theorem dig_hands : ∀ {a b : List PHand}, a.flatMap PHand.dig = b.flatMap PHand.dig → a = b
  | [], [], _ => rfl
  | [], y :: b, e => by simp [PHand.dig] at e
  | x :: a, [], e => by simp [PHand.dig] at e
  | x :: a, y :: b, e => by
    rw [List.flatMap_cons, List.flatMap_cons] at e
    simp only [PHand.dig, List.cons_append, List.nil_append, List.cons.injEq] at e
    obtain ⟨e1, e2, e3, e4, e5, e6, e7, e8⟩ := e
    have := dig_hands (a := a) (b := b) (by simpa [PHand.dig] using e8)
    obtain ⟨⟩ := x
    obtain ⟨⟩ := y
    simp only at e1 e2 e3 e4 e5 e6 e7
    subst e1 e2 e3 e4 e5 e6 e7 this
    rfl
/-- small enough to be told by its number; values are none's business -/
def PSt.low (S : PSt) : Prop := (∀ d ∈ S.dig, d < 1024) ∧ S.vals = List.replicate S.nexts.length 0
theorem num_inj {S R : PSt} (h1 : S.low) (h2 : R.low) (e : S.num = R.num) : S = R := by
  have e := encR_inj h1.1 h2.1 e
  unfold PSt.dig at e
  obtain ⟨e1, e2⟩ := List.cons.inj e
  obtain ⟨e3, e4⟩ := List.cons.inj e2
  obtain ⟨e5, e6⟩ := split0 e4
  obtain ⟨e7, e8⟩ := split0 e6
  have e9 := dig_hands e8
  have v1 := h1.2
  have v2 := h2.2
  obtain ⟨⟩ := S
  obtain ⟨⟩ := R
  simp only at e1 e3 e5 e7 e9 v1 v2
  subst e1 e3 e5 e7 e9
  rw [v1, v2]
/-! ### a tree of numbers -/
inductive Tr where
  | nil
  | node (l : Tr) (k : Nat) (r : Tr)
def Tr.has (x : Nat) : Tr → Bool
  | .nil => false
  | .node l k r => if Nat.blt x k then l.has x else if Nat.blt k x then r.has x else true
def Tr.put (x : Nat) : Tr → Tr
  | .nil => .node .nil x .nil
  | .node l k r => if Nat.blt x k then .node (l.put x) k r else if Nat.blt k x then .node l k (r.put x) else .node l k r
def Tr.all : Tr → List Nat
  | .nil => []
  | .node l k r => l.all ++ k :: r.all
theorem mid_eq {x k : Nat} (h1 : ¬ Nat.blt x k = true) (h2 : ¬ Nat.blt k x = true) : x = k := by
  rw [Nat.blt_eq] at h1 h2
  omega
theorem Tr.has_in {x : Nat} : ∀ {t : Tr}, t.has x = true → x ∈ t.all
  | .nil, h => by cases h
  | .node l k r, h => by
    unfold Tr.has at h
    unfold Tr.all
    split at h
    · exact List.mem_append_left _ (Tr.has_in h)
    · split at h
      · exact List.mem_append_right _ (List.mem_cons_of_mem _ (Tr.has_in h))
      · rename_i h1 h2
        rw [mid_eq h1 h2]
        exact List.mem_append_right _ List.mem_cons_self
theorem Tr.put_all {x y : Nat} : ∀ {t : Tr}, y ∈ (t.put x).all ↔ y = x ∨ y ∈ t.all
  | .nil => by
    show y ∈ [x] ↔ y = x ∨ y ∈ []
    simp
  | .node l k r => by
    unfold Tr.put
    split
    · show y ∈ (l.put x).all ++ k :: r.all ↔ y = x ∨ y ∈ l.all ++ k :: r.all
      rw [List.mem_append, List.mem_append, Tr.put_all (t := l)]
      constructor
      · rintro ((h | h) | h)
        · exact .inl h
        · exact .inr (.inl h)
        · exact .inr (.inr h)
      · rintro (h | h | h)
        · exact .inl (.inl h)
        · exact .inl (.inr h)
        · exact .inr h
    · split
      · show y ∈ l.all ++ k :: (r.put x).all ↔ y = x ∨ y ∈ l.all ++ k :: r.all
        rw [List.mem_append, List.mem_append, List.mem_cons, List.mem_cons, Tr.put_all (t := r)]
        constructor
        · rintro (h | h | h | h)
          · exact .inr (.inl h)
          · exact .inr (.inr (.inl h))
          · exact .inl h
          · exact .inr (.inr (.inr h))
        · rintro (h | h | h | h)
          · exact .inr (.inr (.inl h))
          · exact .inl h
          · exact .inr (.inl h)
          · exact .inr (.inr (.inr h))
      · rename_i h1 h2
        have := mid_eq h1 h2
        constructor
        · exact fun h => .inr h
        · rintro (h | h)
          · show y ∈ l.all ++ k :: r.all
            rw [h, this]
            exact List.mem_append_right _ List.mem_cons_self
          · exact h
theorem Tr.put_len {x : Nat} : ∀ {t : Tr}, (t.put x).all.length ≤ t.all.length + 1
  | .nil => Nat.le_refl _
  | .node l k r => by
    unfold Tr.put
    split
    · have := Tr.put_len (x := x) (t := l)
      show ((l.put x).all ++ k :: r.all).length ≤ (l.all ++ k :: r.all).length + 1
      rw [List.length_append, List.length_append]
      omega
    · split
      · have := Tr.put_len (x := x) (t := r)
        show (l.all ++ k :: (r.put x).all).length ≤ (l.all ++ k :: r.all).length + 1
        rw [List.length_append, List.length_append, List.length_cons, List.length_cons]
        omega
      · exact Nat.le_succ _
/-! ### all that is come to -/
def succs (r : Rule) (pss : List (List Deed)) (S : PSt) : Nat → List PSt
  | 0 => []
  | i + 1 => match S.hands[i]?, pss[i]? with
    | some x, some ds => (stepP r S i x ds).2 :: succs r pss S i
    | _, _ => succs r pss S i
theorem succs_mem {r : Rule} {pss : List (List Deed)} {S : PSt} {i : Nat} {x : PHand} {ds : List Deed} (h1 : S.hands[i]? = some x) (h2 : pss[i]? = some ds) : ∀ {n : Nat}, i < n → (stepP r S i x ds).2 ∈ succs r pss S n
  | n + 1, h => by
    unfold succs
    by_cases q : i = n
    · subst q
      rw [h1, h2]
      exact List.mem_cons_self
    · have ih := succs_mem (r := r) h1 h2 (n := n) (by omega)
      split
      · exact List.mem_cons_of_mem _ ih
      · exact ih
def close (r : Rule) (pss : List (List Deed)) : Nat → List PSt → Tr → Nat → Option Nat
  | 0, _, _, _ => none
  | _ + 1, [], _, n => some n
  | f + 1, S :: todo, seen, n => match seen.has S.num with
    | true => close r pss f todo seen n
    | false => close r pss f (succs r pss S pss.length ++ todo) (seen.put S.num) (n + 1)
section
variable {r : Rule} {pss : List (List Deed)} {Re : PSt → Prop}
/-- what was gone on from, and what is still to be -/
structure Clos (r : Rule) (pss : List (List Deed)) (Re : PSt → Prop) (todo : List PSt) (seen : Tr) : Prop where
  re : ∀ S ∈ todo, Re S
  from_ : ∀ k ∈ seen.all, ∃ S, Re S ∧ S.num = k ∧ ∀ R ∈ succs r pss S pss.length, R.num ∈ seen.all ∨ R ∈ todo
theorem close_spec (hs : ∀ S, Re S → ∀ R ∈ succs r pss S pss.length, Re R) : ∀ {f : Nat} {todo : List PSt} {seen : Tr} {n m : Nat}, Clos r pss Re todo seen → seen.all.length ≤ n → close r pss f todo seen n = some m →
    ∃ T : Tr, T.all.length ≤ m ∧ Clos r pss Re [] T ∧ (∀ k ∈ seen.all, k ∈ T.all) ∧ ∀ S ∈ todo, S.num ∈ T.all
  | 0, _, _, _, _, _, _, e => by cases e
  | f + 1, [], seen, n, m, C, l, e => by
    have e : n = m := Option.some.inj e
    exact ⟨seen, by omega, C, fun _ h => h, fun _ h => by cases h⟩
  | f + 1, S :: todo, seen, n, m, C, l, e => by
    unfold close at e
    cases h : seen.has S.num with
    | true =>
      rw [h] at e
      have hi := Tr.has_in h
      obtain ⟨T, t1, t2, t3, t4⟩ := close_spec hs (todo := todo) (seen := seen) ⟨fun R hR => C.re R (List.mem_cons_of_mem _ hR), fun k hk => by
        obtain ⟨Q, q1, q2, q3⟩ := C.from_ k hk
        refine ⟨Q, q1, q2, fun R hR => ?_⟩
        rcases q3 R hR with z | z
        · exact .inl z
        · rcases List.mem_cons.mp z with z | z
          · rw [z]; exact .inl hi
          · exact .inr z⟩ l e
      refine ⟨T, t1, t2, t3, fun R hR => ?_⟩
      rcases List.mem_cons.mp hR with z | z
      · rw [z]; exact t3 _ hi
      · exact t4 R z
    | false =>
      rw [h] at e
      have rS := C.re S List.mem_cons_self
      obtain ⟨T, t1, t2, t3, t4⟩ := close_spec hs (todo := succs r pss S pss.length ++ todo) (seen := seen.put S.num) ⟨fun R hR => by
        rcases List.mem_append.mp hR with z | z
        · exact hs S rS R z
        · exact C.re R (List.mem_cons_of_mem _ z), fun k hk => by
        rcases Tr.put_all.mp hk with z | z
        · exact ⟨S, rS, z.symm, fun R hR => .inr (List.mem_append_left _ hR)⟩
        · obtain ⟨Q, q1, q2, q3⟩ := C.from_ k z
          refine ⟨Q, q1, q2, fun R hR => ?_⟩
          rcases q3 R hR with y | y
          · exact .inl (Tr.put_all.mpr (.inr y))
          · rcases List.mem_cons.mp y with y | y
            · rw [y]; exact .inl (Tr.put_all.mpr (.inl rfl))
            · exact .inr (List.mem_append_right _ y)⟩ (Nat.le_trans Tr.put_len (by omega)) e
      refine ⟨T, t1, t2, fun k hk => t3 k (Tr.put_all.mpr (.inr hk)), fun R hR => ?_⟩
      rcases List.mem_cons.mp hR with z | z
      · rw [z]; exact t3 _ (Tr.put_all.mpr (.inl rfl))
      · exact t4 R (List.mem_append_right _ z)
theorem nodup_len : ∀ {l m : List Nat}, l.Nodup → (∀ x ∈ l, x ∈ m) → l.length ≤ m.length
  | [], _, _, _ => Nat.zero_le _
  | x :: l, m, n, h => by
    obtain ⟨n1, n2⟩ := List.nodup_cons.mp n
    have hx := h x List.mem_cons_self
    have := nodup_len (l := l) (m := m.erase x) n2 (fun y hy => (List.mem_erase_of_ne (fun z => n1 (by rw [← z]; exact hy))).mpr (h y (List.mem_cons_of_mem _ hy)))
    rw [List.length_erase_of_mem hx] at this
    have p : 0 < m.length := List.length_pos_of_mem hx
    show l.length + 1 ≤ m.length
    omega
/-- no more states than were counted -/
theorem close_bound {S0 : PSt} {f m : Nat} (e : close r pss f [S0] .nil 0 = some m) (h0 : Re S0) (hs : ∀ S, Re S → ∀ R ∈ succs r pss S pss.length, Re R) (lo : ∀ S, Re S → S.low) :
    ∃ T : Tr, T.all.length ≤ m ∧ S0.num ∈ T.all ∧ ∀ S, Re S → S.num ∈ T.all → ∀ R ∈ succs r pss S pss.length, R.num ∈ T.all := by
  obtain ⟨T, t1, t2, _, t4⟩ := close_spec hs (todo := [S0]) (seen := .nil) ⟨fun S hS => by rw [List.mem_singleton.mp hS]; exact h0, fun k hk => by cases hk⟩ (Nat.zero_le _) e
  refine ⟨T, t1, t4 S0 List.mem_cons_self, fun S rS hS R hR => ?_⟩
  obtain ⟨Q, q1, q2, q3⟩ := t2.from_ _ hS
  have : Q = S := num_inj (lo Q q1) (lo S rS) q2
  subst this
  rcases q3 R hR with z | z
  · exact z
  · cases z
end
end Sk


/-! All that may be come to, gone through. -/
namespace Sk
open PySem PySem.Spec PyProof.Rows L2
/-! ### a state as a number -/
def cN (d n : Nat) : Nat := (2 * n + 1) * 2 ^ d
theorem cN_inj : ∀ {d e n m : Nat}, cN d n = cN e m → d = e ∧ n = m
  | 0, 0, n, m, h => by
    unfold cN at h
    simp at h
    exact ⟨rfl, by omega⟩
  | 0, e + 1, n, m, h => by
    unfold cN at h
    rw [Nat.pow_succ, ← Nat.mul_assoc] at h
    omega
  | d + 1, 0, n, m, h => by
    unfold cN at h
    rw [Nat.pow_succ, ← Nat.mul_assoc] at h
    omega
  | d + 1, e + 1, n, m, h => by
    unfold cN at h
    rw [Nat.pow_succ, Nat.pow_succ, ← Nat.mul_assoc, ← Nat.mul_assoc] at h
    have := cN_inj (d := d) (e := e) (n := n) (m := m) (by unfold cN; omega)
    exact ⟨by omega, this.2⟩
theorem cN_pos (d n : Nat) : 0 < cN d n := Nat.mul_pos (Nat.succ_pos _) (Nat.pow_pos (by decide))
def encL : List Nat → Nat → Nat
  | [], z => cN 0 z
  | x :: r, z => cN (x + 1) (encL r z)
theorem encL_inj : ∀ {l m : List Nat} {x y : Nat}, encL l x = encL m y → l = m ∧ x = y
  | [], [], x, y, h => ⟨rfl, (cN_inj h).2⟩
  | [], b :: m, x, y, h => by
    have := (cN_inj h).1
    omega
  | a :: l, [], x, y, h => by
    have := (cN_inj h).1
    omega
  | a :: l, b :: m, x, y, h => by
    obtain ⟨h1, h2⟩ := cN_inj h
    obtain ⟨h3, h4⟩ := encL_inj h2
    exact ⟨by rw [h3, show a = b by omega], h4⟩
def encH : List AH → Nat
  | [] => 0
  | x :: r => cN x.a (cN x.c (cN x.t (encH r)))
theorem encH_inj : ∀ {l m : List AH}, encH l = encH m → l = m
  | [], [], h => rfl
  | [], b :: m, h => by
    have := cN_pos b.a (cN b.c (cN b.t (encH m)))
    have h : 0 = cN b.a (cN b.c (cN b.t (encH m))) := h
    omega
  | a :: l, [], h => by
    have := cN_pos a.a (cN a.c (cN a.t (encH l)))
    have h : cN a.a (cN a.c (cN a.t (encH l))) = 0 := h
    omega
  | a :: l, b :: m, h => by
    obtain ⟨h1, h⟩ := cN_inj (show cN a.a (cN a.c (cN a.t (encH l))) = cN b.a (cN b.c (cN b.t (encH m))) from h)
    obtain ⟨h2, h⟩ := cN_inj h
    obtain ⟨h3, h⟩ := cN_inj h
    rw [encH_inj h]
    obtain ⟨⟩ := a
    obtain ⟨⟩ := b
    simp only at h1 h2 h3
    subst h1 h2 h3
    rfl
def encA (S : AS) : Nat := cN S.top (encL S.ls (encL S.fr (encH S.hs)))
theorem encA_inj {S R : AS} (h : encA S = encA R) : S = R := by
  obtain ⟨h1, h⟩ := cN_inj h
  obtain ⟨h2, h⟩ := encL_inj h
  obtain ⟨h3, h⟩ := encL_inj h
  have h4 := encH_inj h
  obtain ⟨⟩ := S
  obtain ⟨⟩ := R
  simp only at h1 h2 h3 h4
  subst h1 h2 h3 h4
  rfl
/-! ### a tree of numbers -/
def Tr.ins (x : Nat) : Tr → Option Tr
  | .nil => some (.node .nil x .nil)
  | .node l k r => match Nat.blt x k with
    | true => (match l.ins x with
      | some l' => some (.node l' k r)
      | none => none)
    | false => match Nat.blt k x with
      | true => (match r.ins x with
        | some r' => some (.node l k r')
        | none => none)
      | false => none
theorem Tr.ins_none {x : Nat} : ∀ {t : Tr}, t.ins x = none → x ∈ t.all
  | .nil, h => by cases h
  | .node l k r, h => by
    unfold Tr.ins at h
    unfold Tr.all
    split at h
    · split at h
      · cases h
      · exact List.mem_append_left _ (Tr.ins_none ‹_›)
    · split at h
      · split at h
        · cases h
        · exact List.mem_append_right _ (List.mem_cons_of_mem _ (Tr.ins_none ‹_›))
      · rename_i h1 _ h2
        have e : x = k := mid_eq (by rw [h1]; decide) (by rw [h2]; decide)
        rw [e]
        exact List.mem_append_right _ List.mem_cons_self
theorem Tr.ins_some {x y : Nat} : ∀ {t t' : Tr}, t.ins x = some t' → (y ∈ t'.all ↔ y = x ∨ y ∈ t.all)
  | .nil, t', h => by
    have h : Tr.node .nil x .nil = t' := Option.some.inj h
    subst h
    show y ∈ [x] ↔ y = x ∨ y ∈ []
    simp
  | .node l k r, t', h => by
    unfold Tr.ins at h
    split at h
    · split at h
      · rename_i l' e
        have h := Option.some.inj h
        subst h
        have ih := Tr.ins_some (y := y) e
        show y ∈ l'.all ++ k :: r.all ↔ y = x ∨ y ∈ l.all ++ k :: r.all
        rw [List.mem_append, List.mem_append, ih, or_assoc]
      · cases h
    · split at h
      · split at h
        · rename_i r' e
          have h := Option.some.inj h
          subst h
          have ih := Tr.ins_some (y := y) e
          show y ∈ l.all ++ k :: r'.all ↔ y = x ∨ y ∈ l.all ++ k :: r.all
          rw [List.mem_append, List.mem_append, List.mem_cons, List.mem_cons, ih]
          constructor
          · rintro (h | h | h | h)
            · exact .inr (.inl h)
            · exact .inr (.inr (.inl h))
            · exact .inl h
            · exact .inr (.inr (.inr h))
          · rintro (h | h | h | h)
            · exact .inr (.inr (.inl h))
            · exact .inl h
            · exact .inr (.inl h)
            · exact .inr (.inr (.inr h))
        · cases h
      · cases h
/-! ### all steps -/
def getB : List Bool → Nat → Option Bool
  | [], _ => none
  | x :: r, n => match n with
    | 0 => some x
    | n + 1 => getB r n
theorem getB_eq : ∀ (l : List Bool) (n : Nat), getB l n = l[n]?
  | [], n => rfl
  | x :: r, 0 => rfl
  | x :: r, n + 1 => by
    show getB r n = _
    rw [getB_eq r n]
    rfl
def asuccs (S : AS) : Nat → List AH → List (List Bool) → List AS
  | i, h :: hs, p :: ps => asucc1 S i h (getB p h.a) ++ asuccs S (i + 1) hs ps
  | _, _, _ => []
theorem asuccs_mem {S : AS} {A' : AS} : ∀ {hs : List AH} {ps : List (List Bool)} {k i : Nat} {h : AH} {p : List Bool}, hs[i]? = some h → ps[i]? = some p → A' ∈ asucc1 S (k + i) h (getB p h.a) → A' ∈ asuccs S k hs ps
  | [], ps, k, i, h, p, e, _, _ => by simp at e
  | g :: hs, [], k, i, h, p, _, e, _ => by simp at e
  | g :: hs, q :: ps, k, 0, h, p, e1, e2, m => by
    simp at e1 e2
    subst e1 e2
    exact List.mem_append_left _ m
  | g :: hs, q :: ps, k, i + 1, h, p, e1, e2, m => by
    refine List.mem_append_right _ (asuccs_mem (k := k + 1) (i := i) (by simpa using e1) (by simpa using e2) ?_)
    rw [show k + 1 + i = k + (i + 1) by omega]
    exact m
def closeA (ps : List (List Bool)) : Nat → List AS → Tr → List AS → Option (List AS)
  | 0, _, _, _ => none
  | _ + 1, [], _, acc => some acc
  | f + 1, S :: todo, seen, acc => match seen.ins (encA S) with
    | none => closeA ps f todo seen acc
    | some t => closeA ps f (asuccs S 0 S.hs ps ++ todo) t (S :: acc)
structure ClosA (ps : List (List Bool)) (todo : List AS) (seen : Tr) (acc : List AS) : Prop where
  code : ∀ x ∈ seen.all, ∃ A ∈ acc, encA A = x
  next : ∀ A ∈ acc, ∀ B ∈ asuccs A 0 A.hs ps, B ∈ acc ∨ B ∈ todo
theorem closeA_spec {ps : List (List Bool)} : ∀ {f : Nat} {todo : List AS} {seen : Tr} {acc L : List AS}, ClosA ps todo seen acc → closeA ps f todo seen acc = some L →
    (∀ A ∈ L, ∀ B ∈ asuccs A 0 A.hs ps, B ∈ L) ∧ (∀ A ∈ acc, A ∈ L) ∧ ∀ A ∈ todo, A ∈ L
  | 0, _, _, _, _, _, e => by cases e
  | f + 1, [], seen, acc, L, C, e => by
    have e : acc = L := Option.some.inj e
    subst e
    refine ⟨fun A hA B hB => ?_, fun _ h => h, fun _ h => by cases h⟩
    rcases C.next A hA B hB with z | z
    · exact z
    · cases z
  | f + 1, S :: todo, seen, acc, L, C, e => by
    unfold closeA at e
    split at e
    · rename_i h
      obtain ⟨A, hA, eA⟩ := C.code _ (Tr.ins_none h)
      have := encA_inj eA
      subst this
      obtain ⟨t1, t2, t3⟩ := closeA_spec (todo := todo) (seen := seen) (acc := acc) ⟨C.code, fun Q hQ B hB => by
        rcases C.next Q hQ B hB with z | z
        · exact .inl z
        · rcases List.mem_cons.mp z with z | z
          · rw [z]; exact .inl hA
          · exact .inr z⟩ e
      refine ⟨t1, t2, fun B hB => ?_⟩
      rcases List.mem_cons.mp hB with z | z
      · rw [z]; exact t2 _ hA
      · exact t3 B z
    · rename_i t h
      obtain ⟨t1, t2, t3⟩ := closeA_spec (todo := asuccs S 0 S.hs ps ++ todo) (seen := t) (acc := S :: acc) ⟨fun x hx => by
        rcases (Tr.ins_some h).mp hx with z | z
        · exact ⟨S, List.mem_cons_self, z.symm⟩
        · obtain ⟨A, hA, eA⟩ := C.code x z
          exact ⟨A, List.mem_cons_of_mem _ hA, eA⟩, fun Q hQ B hB => by
        rcases List.mem_cons.mp hQ with z | z
        · subst z
          exact .inr (List.mem_append_left _ hB)
        · rcases C.next Q z B hB with y | y
          · exact .inl (List.mem_cons_of_mem _ y)
          · rcases List.mem_cons.mp y with y | y
            · rw [y]; exact .inl List.mem_cons_self
            · exact .inr (List.mem_append_right _ y)⟩ e
      refine ⟨t1, fun A hA => t2 A (List.mem_cons_of_mem _ hA), fun B hB => ?_⟩
      rcases List.mem_cons.mp hB with z | z
      · rw [z]; exact t2 _ List.mem_cons_self
      · exact t3 B (List.mem_append_right _ z)
def begA (n k : Nat) : AS := ⟨n, List.range n, [], List.replicate k ⟨0, 0, 0⟩⟩
theorem close_all {ps : List (List Bool)} {f n k : Nat} {L : List AS} (e : closeA ps f [begA n k] .nil [] = some L) : begA n k ∈ L ∧ ∀ A ∈ L, ∀ B ∈ asuccs A 0 A.hs ps, B ∈ L := by
  obtain ⟨t1, t2, t3⟩ := closeA_spec (todo := [begA n k]) (seen := .nil) (acc := []) ⟨fun x hx => (by cases hx), fun A hA => (by cases hA)⟩ e
  exact ⟨t3 _ List.mem_cons_self, t1⟩
end Sk


namespace Sk
open PySem PySem.Spec PyProof.Rows L2
section
variable {r : Rule}
theorem rank_first (top count i : Nat) (ds : List Deed) : rank r top count i (Hand.new ds) ≤ 6 := by
  unfold rank Hand.new
  dsimp only
  split
  · omega
  · simp
  · split <;> omega
theorem costs_le : ∀ ds : List Deed, costs ds ≤ 6 * ds.length
  | [] => Nat.le_refl _
  | d :: ds => by
    have ih := costs_le ds
    have hd : costD d ≤ 6 := by cases d <;> simp [costD]
    show costD d + costs ds ≤ 6 * (ds.length + 1)
    omega
theorem psi_le {n top count c : Nat} : ∀ {hs : List Hand} {k : Nat}, (∀ h ∈ hs, ∀ j, psi1 r n top count j h ≤ c) → psi r n top count k hs ≤ c * hs.length
  | [], _, _ => Nat.zero_le _
  | h :: hs, k, q => by
    have h1 := q h List.mem_cons_self k
    have ih := psi_le (hs := hs) (k := k + 1) fun g hg j => q g (List.mem_cons_of_mem _ hg) j
    show psi1 r n top count k h + psi r n top count (k + 1) hs ≤ c * (hs.length + 1)
    rw [Nat.mul_succ]
    omega
theorem todo_begun (xs : List Int) (ps : List (List Deed)) (h3 : ps.length ≤ 3) (h4 : ∀ ds ∈ ps, ds.length ≤ 4) : (Mach.begun xs ps).toDo r ≤ 252 := by
  have hl : (Mach.begun xs ps).hands.length = ps.length := List.length_map ..
  unfold Mach.toDo
  refine Nat.le_trans (psi_le (c := 84) fun h hm j => ?_) (by rw [hl]; omega)
  obtain ⟨ds, hd, e⟩ := List.mem_map.mp (show h ∈ ps.map Hand.new from hm)
  have l4 := h4 ds hd
  unfold psi1
  rw [hl, ← e]
  have a1 := rank_first (r := r) (Mach.begun xs ps).top (Mach.begun xs ps).count j ds
  have a2 := costs_le ((Hand.new ds).deeds.drop ((Hand.new ds).at_ + 1))
  have a3 : ((Hand.new ds).deeds.drop ((Hand.new ds).at_ + 1)).length ≤ 3 := by
    rw [List.length_drop]
    show ds.length - 1 ≤ 3
    omega
  have a4 : left (Hand.new ds) ≤ 4 := by
    unfold left
    show ds.length - _ ≤ 4
    omega
  have a5 : 5 * ps.length * left (Hand.new ds) ≤ 15 * 4 := Nat.mul_le_mul (by omega) a4
  omega
theorem rounds_step {n : Nat} {s : Mach} (B : Base s) (nd : s.done = false) (h : s.toDo r ≤ n) : rounds r n s = rounds r ((s.round r).toDo r) (s.round r) := by
  have key : ∀ (n m : Nat) (s : Mach), Base s → s.toDo r ≤ n → s.toDo r ≤ m → rounds r n s = rounds r m s := by
    intro n
    induction n with
    | zero =>
      intro m s B h1 h2
      have d : s.done = true := by
        cases q : s.done with
        | true => rfl
        | false =>
          have := round_lt (r := r) B q
          omega
      cases m with
      | zero => rfl
      | succ m =>
        unfold rounds
        rw [if_pos d]
    | succ n ih =>
      intro m s B h1 h2
      by_cases d : s.done = true
      · cases m with
        | zero =>
          unfold rounds
          rw [if_pos d]
        | succ m =>
          unfold rounds
          rw [if_pos d, if_pos d]
      · have d2 : s.done = false := by simpa using d
        have lt := round_lt (r := r) B d2
        cases m with
        | zero => omega
        | succ m =>
          unfold rounds
          rw [if_neg d, if_neg d]
          exact ih m _ B.play (by omega) (by omega)
  have lt := round_lt (r := r) B nd
  cases n with
  | zero => omega
  | succ n =>
    rw [show rounds r (n + 1) s = if s.done = true then s else rounds r n (s.round r) from rfl, if_neg (by rw [nd]; decide)]
    exact key _ _ _ B.play (by omega) (Nat.le_refl _)
theorem rounds_end {n : Nat} {s : Mach} (d : s.done = true) : rounds r n s = s := by
  cases n with
  | zero => rfl
  | succ n =>
    unfold rounds
    rw [if_pos d]
end
end Sk


/-! Rounds by which all rest; told as data. -/
namespace Sk
open PySem PySem.Spec PyProof.Rows L2
def Stp.isRests : Stp → Bool
  | .rests => true
  | _ => false
section
variable {r : Rule} {s : Mach} {i : Nat}
theorem rest_done (d : s.done = true) : turn r s i = (.rests, s) := by
  unfold turn
  split
  · rfl
  · rename_i h hi
    have := of_decide_eq_true (List.all_eq_true.mp d h (List.mem_of_getElem? hi))
    unfold go
    rw [List.getElem?_eq_none_iff.mpr this]
theorem rest_of (h : (turn r s i).1.isRests = true) : (turn r s i).2 = s ∧ ∀ g, s.hands[i]? = some g → g.deeds.length ≤ g.at_ := by
  unfold turn at h ⊢
  split at h
  · rename_i e
    refine ⟨rfl, fun g hg => ?_⟩
    rw [e] at hg
    cases hg
  · rename_i h0 e
    have k := go_kind r s i h0
    have : go r s i h0 = (.rests, s) ∧ h0.deeds[h0.at_]? = none := by
      generalize hg : go r s i h0 = o at h k ⊢
      obtain ⟨st, s2⟩ := o
      dsimp only at h k ⊢
      cases k with
      | rests q => exact ⟨rfl, q⟩
      | _ => cases h
    rw [this.1]
    refine ⟨rfl, fun g hg => ?_⟩
    rw [e] at hg
    have e3 := Option.some.inj hg
    subst e3
    exact List.getElem?_eq_none_iff.mp this.2
theorem play_done (d : s.done = true) : ∀ w : List Nat, play r s w = (List.replicate w.length .rests, s)
  | [] => rfl
  | i :: w => by
    show ((turn r s i).1 :: (play r (turn r s i).2 w).1, (play r (turn r s i).2 w).2) = _
    rw [rest_done d, play_done d w]
    rfl
theorem all_rest : ∀ {w : List Nat} {s : Mach}, (play r s w).1.all Stp.isRests = true → (play r s w).2 = s ∧ ∀ i ∈ w, ∀ g, s.hands[i]? = some g → g.deeds.length ≤ g.at_
  | [], s, _ => ⟨rfl, fun i h => by cases h⟩
  | i :: w, s, h => by
    have h : ((turn r s i).1.isRests && (play r (turn r s i).2 w).1.all Stp.isRests) = true := h
    obtain ⟨h1, h2⟩ := Bool.and_eq_true_iff.mp h
    obtain ⟨r1, r2⟩ := rest_of h1
    rw [r1] at h2
    obtain ⟨a1, a2⟩ := all_rest h2
    refine ⟨?_, fun j hj g hg => ?_⟩
    · show (play r (turn r s i).2 w).2 = s
      rw [r1]
      exact a1
    · rcases List.mem_cons.mp hj with q | q
      · exact r2 g (q ▸ hg)
      · exact a2 j q g hg
/-- some hand of a round does not rest, as long as not all is done -/
theorem round_rests : (play r s (List.range s.hands.length)).1.all Stp.isRests = s.done := by
  cases d : s.done with
  | true =>
    rw [play_done d]
    exact List.all_eq_true.mpr fun x hx => by
      rw [(List.mem_replicate.mp hx).2]
      rfl
  | false =>
    rw [Bool.eq_false_iff]
    intro h
    obtain ⟨_, a⟩ := all_rest h
    have : s.done = true := List.all_eq_true.mpr fun g hg => by
      obtain ⟨k, hk, ek⟩ := List.mem_iff_getElem.mp hg
      exact decide_eq_true (a k (List.mem_range.mpr hk) g (by rw [List.getElem?_eq_getElem hk, ek]))
    rw [d] at this
    cases this
theorem eqv_rests {st : Stp} : PyData.eqv st.dat (.tuple [.str "rests"]) = st.isRests := by
  unfold Stp.dat
  rw [eqv_two]
  cases st with
  | rests => decide +kernel
  | takes c => rw [show ((Stp.word (.takes c)) == ("rests" : Str)) = false from (by decide +kernel : (("takes" : Str) == ("rests" : Str)) = false), Bool.false_and]; rfl
  | reads c => rw [show ((Stp.word (.reads c)) == ("rests" : Str)) = false from (by decide +kernel : (("reads" : Str) == ("rests" : Str)) = false), Bool.false_and]; rfl
  | ends c => rw [show ((Stp.word (.ends c)) == ("rests" : Str)) = false from (by decide +kernel : (("ends" : Str) == ("rests" : Str)) = false), Bool.false_and]; rfl
  | links c => rw [show ((Stp.word (.links c)) == ("rests" : Str)) = false from (by decide +kernel : (("links" : Str) == ("rests" : Str)) = false), Bool.false_and]; rfl
  | marks c => rw [show ((Stp.word (.marks c)) == ("rests" : Str)) = false from (by decide +kernel : (("marks" : Str) == ("rests" : Str)) = false), Bool.false_and]; rfl
  | looks c => rw [show ((Stp.word (.looks c)) == ("rests" : Str)) = false from (by decide +kernel : (("looks" : Str) == ("rests" : Str)) = false), Bool.false_and]; rfl
  | follows c => rw [show ((Stp.word (.follows c)) == ("rests" : Str)) = false from (by decide +kernel : (("follows" : Str) == ("rests" : Str)) = false), Bool.false_and]; rfl
  | exchanges c => rw [show ((Stp.word (.exchanges c)) == ("rests" : Str)) = false from (by decide +kernel : (("exchanges" : Str) == ("rests" : Str)) = false), Bool.false_and]; rfl
  | misses => rw [show ((Stp.word .misses) == ("rests" : Str)) = false from (by decide +kernel : (("misses" : Str) == ("rests" : Str)) = false), Bool.false_and]; rfl
end
end Sk


/-! The package's machine on the heap. -/
namespace Sk
open PySem PySem.Spec PyProof.Rows L2
/-! ### what may be written -/
def HO.mut : HO → Bool
  | .lst _ => true
  | .ins _ _ _ => true
  | .dK _ => true
  | .dT _ => true
  | _ => false
/-- all that is never written stays -/
def Kp (H H' : Hp) : Prop := ∀ a o, H a = some o → HO.mut o = false → H' a = some o
theorem Kp.refl {H : Hp} : Kp H H := fun _ _ e _ => e
theorem Kp.trans {H H1 H2 : Hp} (x : Kp H H1) (y : Kp H1 H2) : Kp H H2 := fun a o e m => y a o (x a o e m) m
theorem Kp.of {H H' : Hp} (s : Same H H') : Kp H H' := fun _ _ e _ => s _ _ e
theorem Kp.upd {H : Hp} {p : Addr} {o u : HO} (e : H p = some o) (m : HO.mut o = true) : Kp H (L2.upd H p u) := fun a v z n => by
  rw [upd_ne (fun q => by
    rw [q, e] at z
    rw [Option.some.inj z, n] at m
    cases m)]
  exact z
theorem Kp.tups {H H' : Hp} (k : Kp H H') : Tups H H' := fun a xs e => k a _ e rfl
theorem Kp.sqt {K : PySem.W.Frag} {H H' : Hp} {a : Addr} {xs : List V} (k : Kp H H') (h : SqT K H a xs) : SqT K H' a xs := by
  rcases h with (h | ⟨o, h⟩) | h
  · exact .inl (.inl (k _ _ h rfl))
  · exact .inl (.inr ⟨o, k _ _ h rfl⟩)
  · exact .inr h
theorem RuleAt.tups {H H' : Hp} {t : Addr} {r : Rule} (k : Tups H H') (h : RuleAt H t r) : RuleAt H' t r := by
  cases r with
  | counts m => exact k _ _ h
  | keeps => exact k _ _ h
  | marks hs =>
    obtain ⟨u, h1, h2⟩ := h
    exact ⟨u, k _ _ h1, k _ _ h2⟩
/-! ### programs in tuples -/
def DsT (K : PySem.W.Frag) (H : Hp) (l : Addr) (ds : List Deed) : Prop := ∃ ts : List Addr, H l = some (.tup (ts.map V.ref)) ∧ Rows K H ts (ds.map Deed.row)
def PgT (K : PySem.W.Frag) (H : Hp) (p : Addr) (ps : List (List Deed)) : Prop := ∃ ls : List Addr, H p = some (.tup (ls.map V.ref)) ∧ Paired (DsT K H) ls ps
theorem Rows.kp {K : PySem.W.Frag} {H H' : Hp} {ts : List Addr} {rs : List Row} (k : Kp H H') (h : Rows K H ts rs) : Rows K H' ts rs := h.mono fun _ _ z => k.sqt z
theorem DsT.kp {K : PySem.W.Frag} {H H' : Hp} {l : Addr} {ds : List Deed} (k : Kp H H') (h : DsT K H l ds) : DsT K H' l ds := by
  obtain ⟨ts, h1, h2⟩ := h
  exact ⟨ts, k _ _ h1 rfl, h2.kp k⟩
theorem PgT.kp {K : PySem.W.Frag} {H H' : Hp} {p : Addr} {ps : List (List Deed)} (k : Kp H H') (h : PgT K H p ps) : PgT K H' p ps := by
  obtain ⟨ls, h1, h2⟩ := h
  exact ⟨ls, k _ _ h1 rfl, Paired.mono2 (fun _ _ z => z.kp k) h2⟩
/-! ### its attributes -/
def mFs (P R S An De : Addr) (b : Bool) : List (Str × V) := [("programs", .ref P), ("rule", .ref R), ("state", .ref S), ("answered", .ref An), ("decided", .ref De), ("had_stale", .bl b)]
section
variable {P R S An De : Addr} {b : Bool}
theorem lkF {k k' : Str} {v : V} {l : List (Str × V)} (h : (k == k') = false) : ((k', v) :: l).lookup k = l.lookup k := by simp [List.lookup, h]
theorem lkT {k : Str} {v : V} {l : List (Str × V)} : ((k, v) :: l).lookup k = some v := by simp [List.lookup]
theorem f_programs : (mFs P R S An De b).lookup ("programs" : Str) = some (V.ref P) := lkT
theorem f_rule : (mFs P R S An De b).lookup ("rule" : Str) = some (V.ref R) := (lkF (by decide +kernel)).trans lkT
theorem f_state : (mFs P R S An De b).lookup ("state" : Str) = some (V.ref S) := (lkF (by decide +kernel)).trans ((lkF (by decide +kernel)).trans lkT)
theorem f_answered : (mFs P R S An De b).lookup ("answered" : Str) = some (V.ref An) := (lkF (by decide +kernel)).trans ((lkF (by decide +kernel)).trans ((lkF (by decide +kernel)).trans lkT))
theorem f_decided : (mFs P R S An De b).lookup ("decided" : Str) = some (V.ref De) := (lkF (by decide +kernel)).trans ((lkF (by decide +kernel)).trans ((lkF (by decide +kernel)).trans ((lkF (by decide +kernel)).trans lkT)))
theorem f_had_stale : (mFs P R S An De b).lookup ("had_stale" : Str) = some (V.bl b) := (lkF (by decide +kernel)).trans ((lkF (by decide +kernel)).trans ((lkF (by decide +kernel)).trans ((lkF (by decide +kernel)).trans ((lkF (by decide +kernel)).trans lkT))))
theorem f_none {k : Str} (h : (["programs", "rule", "state", "answered", "decided", "had_stale"] : List Str).all (fun x => !(k == x)) = true) : (mFs P R S An De b).lookup k = none := by
  simp only [List.all_cons, List.all_nil, Bool.and_true, Bool.and_eq_true, Bool.not_eq_true'] at h
  obtain ⟨h1, h2, h3, h4, h5, h6⟩ := h
  exact (lkF h1).trans ((lkF h2).trans ((lkF h3).trans ((lkF h4).trans ((lkF h5).trans ((lkF h6).trans rfl)))))
theorem putN {k k' : Str} {v w : V} {l : List (Str × V)} (h : ¬ k' = k) : putF k v ((k', w) :: l) = (k', w) :: putF k v l := if_neg h
theorem putY {k : Str} {v w : V} {l : List (Str × V)} : putF k v ((k, w) :: l) = (k, v) :: l := if_pos rfl
theorem put_state (S2 : Addr) : putF "state" (.ref S2) (mFs P R S An De b) = mFs P R S2 An De b := by
  unfold mFs
  rw [putN (by decide +kernel), putN (by decide +kernel), putY]
theorem put_stale (c : Bool) : putF "had_stale" (.bl c) (mFs P R S An De b) = mFs P R S An De c := by
  unfold mFs
  rw [putN (by decide +kernel), putN (by decide +kernel), putN (by decide +kernel), putN (by decide +kernel), putN (by decide +kernel), putY]
end
/-! ### it as a whole -/
def PairAt (H : Hp) (t : Addr) (p : Nat × Nat) : Prop := H t = some (.tup [.int (p.1 : Int), .int (p.2 : Int)])
structure ML where
  m : Addr
  dx : Addr
  P : Addr
  R : Addr
  An : Addr
  De : Addr
  qa : List Addr
def ML.own (L : ML) : List Addr := L.m :: L.De :: L.qa
structure MacP (K : PySem.W.Frag) (H : Hp) (C : Addr) (r : Rule) (L : ML) (S : PSt) (ps : List (List Deed)) (sd : List (List V)) (es : List (Nat × Nat)) (b : Bool) : Prop where
  ins : ∃ a, H L.m = some (.ins C L.dx (mFs L.P L.R a L.An L.De b)) ∧ StAt H a S
  pg : PgT K H L.P ps
  rule : RuleAt H L.R r
  ans : H L.An = some (.lst (L.qa.map V.ref))
  said : Paired (fun q l => H q = some (.lst l)) L.qa sd
  dec : ∃ ts : List Addr, H L.De = some (.lst (ts.map V.ref)) ∧ Paired (PairAt H) ts es
  nd : (L.An :: L.own).Nodup
/-- all but the machine's own stays -/
def Kept2 (L : ML) (H H' : Hp) : Prop := ∀ a o, a ∉ L.own → H a = some o → H' a = some o
theorem Kept2.refl {L : ML} {H : Hp} : Kept2 L H H := fun _ _ _ e => e
theorem Kept2.trans {L : ML} {H H1 H2 : Hp} (x : Kept2 L H H1) (y : Kept2 L H1 H2) : Kept2 L H H2 := fun a o n e => y a o n (x a o n e)
theorem Kept2.of {L : ML} {H H' : Hp} (s : Same H H') : Kept2 L H H' := fun a o _ e => s a o e
theorem Kept2.upd {L : ML} {H : Hp} {p : Addr} {o : HO} (hp : p ∈ L.own) : Kept2 L H (L2.upd H p o) := fun a u n e => by
  have ne : a ≠ p := fun q => n (by rw [q]; exact hp)
  rw [upd_ne ne]
  exact e
theorem paired_upd {H : Hp} {q : Addr} {o : HO} : ∀ {qs : List Addr} {ls : List (List V)}, q ∉ qs → Paired (fun y l => H y = some (.lst l)) qs ls → Paired (fun y l => L2.upd H q o y = some (.lst l)) qs ls
  | [], [], _, .nil => .nil
  | x :: qs, l0 :: ls, n, .cons r rs => by
    have n1 : x ≠ q := fun z => n (by rw [z]; exact List.mem_cons_self)
    exact .cons (by rw [upd_ne n1]; exact r) (paired_upd (fun z => n (List.mem_cons_of_mem _ z)) rs)
theorem paired_say {H : Hp} {q : Addr} {m : List V} : ∀ {qs : List Addr} {ls : List (List V)} {j : Nat}, qs.Nodup → qs[j]? = some q → Paired (fun y l => H y = some (.lst l)) qs ls → Paired (fun y l => L2.upd H q (.lst m) y = some (.lst l)) qs (ls.set j m)
  | _, _, _, _, h, .nil => by simp at h
  | x :: qs, l0 :: ls, 0, nd, h, .cons r rs => by
    have e0 := Option.some.inj (show some x = some q from h)
    subst e0
    exact .cons upd_same (paired_upd (List.nodup_cons.mp nd).1 rs)
  | x :: qs, l0 :: ls, j + 1, nd, h, .cons r rs => by
    obtain ⟨d1, d2⟩ := List.nodup_cons.mp nd
    have h : qs[j]? = some q := by simpa using h
    have nx : x ≠ q := fun z => d1 (by rw [z]; exact List.mem_of_getElem? h)
    exact .cons (by rw [upd_ne nx]; exact r) (paired_say d2 h rs)
section
variable {K : PySem.W.Frag} {H : Hp} {C : Addr} {r : Rule} {L : ML} {S : PSt} {ps : List (List Deed)} {sd : List (List V)} {es : List (Nat × Nat)} {b : Bool}
theorem paired_mem {α β : Type} {R : α → β → Prop} {a : α} : ∀ {as : List α} {bs : List β}, Paired R as bs → a ∈ as → ∃ b, R a b
  | _, _, .nil, h => by cases h
  | _, _, .cons (b := b) r rs, h => by
    rcases List.mem_cons.mp h with q | q
    · exact ⟨b, q ▸ r⟩
    · exact paired_mem rs q
/-- its own things may be written -/
theorem MacP.own (M : MacP K H C r L S ps sd es b) {x : Addr} (hx : x ∈ L.own) : ∃ o, H x = some o ∧ HO.mut o = true := by
  obtain ⟨a, e1, _⟩ := M.ins
  obtain ⟨ts, e2, _⟩ := M.dec
  rcases List.mem_cons.mp hx with q | hx
  · exact ⟨_, q ▸ e1, rfl⟩
  · rcases List.mem_cons.mp hx with q | hx
    · exact ⟨_, q ▸ e2, rfl⟩
    · obtain ⟨l, e3⟩ := paired_mem M.said hx
      exact ⟨_, e3, rfl⟩
theorem MacP.kp {H' : Hp} (M : MacP K H C r L S ps sd es b) (k : Kept2 L H H') : Kp H H' := fun a o e m => k a o (fun hx => by
  obtain ⟨u, e2, m2⟩ := M.own hx
  rw [e] at e2
  rw [Option.some.inj e2, m2] at m
  cases m) e
/-- what does not touch it -/
theorem MacP.frame {H' : Hp} (M : MacP K H C r L S ps sd es b) (k : Kp H H') (f : ∀ x ∈ L.An :: L.own, ∀ o, H x = some o → H' x = some o) : MacP K H' C r L S ps sd es b := by
  obtain ⟨a, e1, st⟩ := M.ins
  obtain ⟨ts, e2, pr⟩ := M.dec
  refine ⟨⟨a, f _ (by simp [ML.own]) _ e1, st.tups k.tups⟩, M.pg.kp k, M.rule.tups k.tups, f _ (by simp) _ M.ans, ?_, ⟨ts, f _ (by simp [ML.own]) _ e2, Paired.mono2 (fun t p z => k _ _ z rfl) pr⟩, M.nd⟩
  have go : ∀ {qs : List Addr} {ls : List (List V)}, (∀ q ∈ qs, q ∈ L.qa) → Paired (fun q l => H q = some (.lst l)) qs ls → Paired (fun q l => H' q = some (.lst l)) qs ls := by
    intro qs ls hq pr
    induction pr with
    | nil => exact .nil
    | cons r rs ih => exact .cons (f _ (by simp [ML.own, hq _ List.mem_cons_self]) _ r) (ih fun q z => hq q (List.mem_cons_of_mem _ z))
  exact go (fun q z => z) M.said
theorem MacP.same {H' : Hp} (M : MacP K H C r L S ps sd es b) (s : Same H H') : MacP K H' C r L S ps sd es b := M.frame (.of s) fun x _ o e => s x o e
theorem nd_own (n : (L.An :: L.own).Nodup) : (∀ x ∈ L.own, L.An ≠ x) ∧ L.m ≠ L.De ∧ (∀ q ∈ L.qa, L.m ≠ q ∧ L.De ≠ q) ∧ L.qa.Nodup := by
  unfold ML.own at *
  simp only [List.nodup_cons, List.mem_cons, not_or] at n
  obtain ⟨⟨n1, n2, n3⟩, ⟨n4, n5⟩, n6, n7⟩ := n
  refine ⟨fun x hx q => ?_, n4, fun q hq => ⟨fun z => n5 (z ▸ hq), fun z => n6 (z ▸ hq)⟩, n7⟩
  rcases List.mem_cons.mp hx with z | z
  · exact n1 (q.trans z)
  · rcases List.mem_cons.mp z with z | z
    · exact n2 (q.trans z)
    · exact n3 (q ▸ z)
/-- the instance written anew -/
theorem MacP.setIns {a2 : Addr} {S2 : PSt} {c : Bool} (M : MacP K H C r L S ps sd es b) (st : StAt H a2 S2) : MacP K (upd H L.m (.ins C L.dx (mFs L.P L.R a2 L.An L.De c))) C r L S2 ps sd es c := by
  obtain ⟨a, e1, st0⟩ := M.ins
  obtain ⟨ts, e2, pr⟩ := M.dec
  obtain ⟨n1, n2, n3, n4⟩ := nd_own M.nd
  have k : Kp H (upd H L.m (.ins C L.dx (mFs L.P L.R a2 L.An L.De c))) := .upd e1 rfl
  refine ⟨⟨a2, upd_same, st.tups k.tups⟩, M.pg.kp k, M.rule.tups k.tups, by rw [upd_ne (n1 L.m (by simp [ML.own]))]; exact M.ans, ?_, ⟨ts, by rw [upd_ne (Ne.symm n2)]; exact e2, Paired.mono2 (fun t p z => k _ _ z rfl) pr⟩, M.nd⟩
  have go : ∀ {qs : List Addr} {ls : List (List V)}, (∀ q ∈ qs, q ∈ L.qa) → Paired (fun q l => H q = some (.lst l)) qs ls → Paired (fun q l => (upd H L.m (.ins C L.dx (mFs L.P L.R a2 L.An L.De c))) q = some (.lst l)) qs ls := by
    intro qs ls hq pr
    induction pr with
    | nil => exact .nil
    | cons r rs ih => exact .cons (by rw [upd_ne (Ne.symm (n3 _ (hq _ List.mem_cons_self)).1)]; exact r) (ih fun q z => hq q (List.mem_cons_of_mem _ z))
  exact go (fun q z => z) M.said
/-- one decided deed more -/
theorem MacP.addEnd {ts : List Addr} {t : Addr} {p : Nat × Nat} (M : MacP K H C r L S ps sd es b) (e2 : H L.De = some (.lst (ts.map V.ref))) (pr : Paired (PairAt H) ts es) (ht : PairAt H t p) : MacP K (upd H L.De (.lst (ts.map V.ref ++ [.ref t]))) C r L S ps sd (es ++ [p]) b := by
  obtain ⟨a, e1, st0⟩ := M.ins
  obtain ⟨n1, n2, n3, n4⟩ := nd_own M.nd
  have k : Kp H (upd H L.De (.lst (ts.map V.ref ++ [.ref t]))) := .upd e2 rfl
  refine ⟨⟨a, by rw [upd_ne n2]; exact e1, st0.tups k.tups⟩, M.pg.kp k, M.rule.tups k.tups, by rw [upd_ne (n1 L.De (by simp [ML.own]))]; exact M.ans, ?_, ⟨ts ++ [t], by rw [upd_same, List.map_append]; rfl, ?_⟩, M.nd⟩
  · have go : ∀ {qs : List Addr} {ls : List (List V)}, (∀ q ∈ qs, q ∈ L.qa) → Paired (fun q l => H q = some (.lst l)) qs ls → Paired (fun q l => (upd H L.De (.lst (ts.map V.ref ++ [.ref t]))) q = some (.lst l)) qs ls := by
      intro qs ls hq pr
      induction pr with
      | nil => exact .nil
      | cons r rs ih => exact .cons (by rw [upd_ne (Ne.symm (n3 _ (hq _ List.mem_cons_self)).2)]; exact r) (ih fun q z => hq q (List.mem_cons_of_mem _ z))
    exact go (fun q z => z) M.said
  · exact Paired.app (Paired.mono2 (fun t p z => k _ _ z rfl) pr) (.cons (k _ _ ht rfl) .nil)
/-- one answer more -/
theorem MacP.say {i : Nat} {q : Addr} {l : List V} {v : V} (M : MacP K H C r L S ps sd es b) (hq : L.qa[i]? = some q) (hl : sd[i]? = some l) : H q = some (.lst l) ∧ MacP K (upd H q (.lst (l ++ [v]))) C r L S ps (sd.set i (l ++ [v])) es b := by
  obtain ⟨a, e1, st0⟩ := M.ins
  obtain ⟨ts, e2, pr⟩ := M.dec
  obtain ⟨n1, n2, n3, n4⟩ := nd_own M.nd
  obtain ⟨q2, hq2, eq⟩ := paired_get M.said hl
  rw [hq] at hq2
  have hq2 := Option.some.inj hq2
  subst hq2
  have qm := List.mem_of_getElem? hq
  have k : Kp H (upd H q (.lst (l ++ [v]))) := .upd eq rfl
  refine ⟨eq, ⟨a, by rw [upd_ne (n3 q qm).1]; exact e1, st0.tups k.tups⟩, M.pg.kp k, M.rule.tups k.tups, by rw [upd_ne (n1 q (by simp [ML.own, qm]))]; exact M.ans, ?_, ⟨ts, by rw [upd_ne (n3 q qm).2]; exact e2, Paired.mono2 (fun t p z => k _ _ z rfl) pr⟩, M.nd⟩
  exact paired_say n4 hq M.said
end
/-- a machine that stands at s -/
def MacAt (K : PySem.W.Frag) (H : Hp) (C : Addr) (r : Rule) (L : ML) (s : Mach) : Prop := MacP K H C r L s.ps (s.hands.map Hand.deeds) (s.hands.map Hand.said) s.ends s.stale
end Sk


/-! What stands in lists and tuples, as data. -/
namespace Sk
open PySem PySem.Spec PyProof.Rows L2
/-- data of a depth of at most k that can be compared -/
structure Plain (k : Nat) (d : PyData) : Prop where
  lay : d.canLay0 = true
  dep : d.depth ≤ k
theorem layAll : ∀ {ds : List PyData}, (∀ d ∈ ds, d.canLay0 = true) → PyData.canLayAll0 ds = true
  | [], _ => rfl
  | d :: ds, h => by
    show (PyData.canLay0 d && PyData.canLayAll0 ds) = true
    rw [h d List.mem_cons_self, layAll fun x hx => h x (List.mem_cons_of_mem _ hx)]
    rfl
theorem depAll {k : Nat} : ∀ {ds : List PyData}, (∀ d ∈ ds, d.depth ≤ k) → PyData.depthAll ds ≤ k
  | [], _ => Nat.zero_le _
  | d :: ds, h => by
    have h1 := h d List.mem_cons_self
    have h2 := depAll (ds := ds) fun x hx => h x (List.mem_cons_of_mem _ hx)
    show max (PyData.depth d) (PyData.depthAll ds) ≤ k
    omega
theorem Plain.int (k : Nat) (i : Int) : Plain k (.int i) := ⟨rfl, Nat.zero_le _⟩
theorem Plain.non (k : Nat) : Plain k .none := ⟨rfl, Nat.zero_le _⟩
theorem Plain.bl (k : Nat) (b : Bool) : Plain k (.bool b) := ⟨rfl, Nat.zero_le _⟩
theorem Plain.str (k : Nat) {x : Str} (h : PyData.canLay0 (.str x) = true) : Plain k (.str x) := ⟨h, Nat.zero_le _⟩
theorem Plain.lst {k : Nat} {ds : List PyData} (h : ∀ d ∈ ds, Plain k d) : Plain (k + 1) (.list ds) := ⟨layAll fun d hd => (h d hd).lay, Nat.succ_le_succ (depAll fun d hd => (h d hd).dep)⟩
theorem Plain.tup {k : Nat} {ds : List PyData} (h : ∀ d ∈ ds, Plain k d) : Plain (k + 1) (.tuple ds) := ⟨layAll fun d hd => (h d hd).lay, Nat.succ_le_succ (depAll fun d hd => (h d hd).dep)⟩
theorem Plain.shaped {k : Nat} {d : PyData} (h : Plain k d) (l : k ≤ 64) : SeqAt.shaped d = true := shape_of h.lay (Nat.le_trans h.dep l)
theorem Plain.self {k : Nat} {d : PyData} (h : Plain k d) : PyData.eqv d d = true := SeqAt.eqv_refl d h.lay
theorem Plain.ans (k : Nat) {a : V} (h : IsAns a) : Plain k (ansD a) := ⟨(ans_lay h).1, by rw [(ans_lay h).2]; exact Nat.zero_le _⟩
theorem dp_of {K : PySem.W.Frag} {H : Hp} : ∀ {vs : List V} {ds : List PyData}, Paired (fun v d => Dp K H v d) vs ds → DpAll K H vs ds
  | _, _, .nil => .nil
  | _, _, .cons h hs => .cons h (dp_of hs)
theorem paired_mapL {α β γ : Type} {R : γ → β → Prop} (f : α → γ) : ∀ {as : List α} {bs : List β}, Paired (fun a b => R (f a) b) as bs → Paired R (as.map f) bs
  | _, _, .nil => .nil
  | _, _, .cons h hs => .cons h (paired_mapL f hs)
theorem paired_mapR {α β γ : Type} {R : α → γ → Prop} (f : β → γ) : ∀ {as : List α} {bs : List β}, Paired (fun a b => R a (f b)) as bs → Paired R as (bs.map f)
  | _, _, .nil => .nil
  | _, _, .cons h hs => .cons h (paired_mapR f hs)
theorem paired_self {α β : Type} {R : α → β → Prop} (f : α → β) : ∀ {as : List α}, (∀ a ∈ as, R a (f a)) → Paired R as (as.map f)
  | [], _ => .nil
  | a :: as, h => .cons (h a List.mem_cons_self) (paired_self f fun x hx => h x (List.mem_cons_of_mem _ hx))
/-! ### what is handed in -/
def intsD (xs : List Int) : PyData := .list (xs.map PyData.int)
def natsD (ws : List Nat) : PyData := .list (ws.map fun n : Nat => PyData.int (n : Int))
def deedsD (ds : List Deed) : PyData := .list (ds.map fun d => .tuple (rowD d.row))
def progsD (ps : List (List Deed)) : PyData := .list (ps.map deedsD)
theorem ints_dp {K : PySem.W.Frag} {H : Hp} {a : Addr} {xs : List Int} (h : SqL K H a (xs.map V.int)) : Dp K H (.ref a) (intsD xs) := .lst h (dpAll_ints xs)
theorem nats_dp {K : PySem.W.Frag} {H : Hp} {a : Addr} {ws : List Nat} (h : SqL K H a (vN ws)) : Dp K H (.ref a) (natsD ws) := .lst h (dpAll_nats ws)
theorem rows_dp {K : PySem.W.Frag} {H : Hp} {ts : List Addr} {ds : List Deed} (h : Rows K H ts (ds.map Deed.row)) : DpAll K H (ts.map V.ref) (ds.map fun d => .tuple (rowD d.row)) := by
  have go : ∀ {ts : List Addr} {ds : List Deed}, Paired (fun t r => SqT K H t (rowV r)) ts (ds.map Deed.row) → DpAll K H (ts.map V.ref) (ds.map fun d => .tuple (rowD d.row)) := by
    intro ts ds
    induction ds generalizing ts with
    | nil => intro h; cases h; exact .nil
    | cons d ds ih => intro h; cases h with | cons h hs => exact .cons (row_dp h) (ih hs)
  exact go h
theorem deeds_dp {K : PySem.W.Frag} {H : Hp} {l : Addr} {ds : List Deed} (h : ProgAt K H l ds) : Dp K H (.ref l) (deedsD ds) := by
  obtain ⟨ts, h1, h2⟩ := h
  exact .lst (SqL.of h1) (rows_dp h2)
theorem progs_dp {K : PySem.W.Frag} {H : Hp} {p : Addr} {ps : List (List Deed)} (h : Progs K H p ps) : Dp K H (.ref p) (progsD ps) := by
  obtain ⟨ls, h1, h2⟩ := h
  exact .lst (SqL.of h1) (dp_of (paired_mapL V.ref (paired_mapR deedsD (Paired.mono2 (fun l ds z => deeds_dp z) h2))))
theorem Plain.ints (k : Nat) (xs : List Int) : Plain (k + 1) (intsD xs) := .lst fun d hd => by
  obtain ⟨i, _, e⟩ := List.mem_map.mp hd
  exact e ▸ .int k i
theorem Plain.nats (k : Nat) (ws : List Nat) : Plain (k + 1) (natsD ws) := .lst fun d hd => by
  obtain ⟨i, _, e⟩ := List.mem_map.mp hd
  exact e ▸ .int k i
theorem Plain.row (k : Nat) (d : Deed) : Plain (k + 1) (.tuple (rowD d.row)) := by
  cases d with
  | push v =>
    refine .tup fun x hx => ?_
    have hx : x = .str sPush ∨ x = .int v := by simpa [rowD, Deed.row] using hx
    rcases hx with rfl | rfl
    · exact .str k (by decide +kernel)
    · exact .int k v
  | pop =>
    refine .tup fun x hx => ?_
    have hx : x = .str sPop := by simpa [rowD, Deed.row] using hx
    subst hx
    exact .str k (by decide +kernel)
theorem Plain.deeds (k : Nat) (ds : List Deed) : Plain (k + 2) (deedsD ds) := .lst fun d hd => by
  obtain ⟨i, _, e⟩ := List.mem_map.mp hd
  exact e ▸ .row k i
theorem Plain.progs (k : Nat) (ps : List (List Deed)) : Plain (k + 3) (progsD ps) := .lst fun d hd => by
  obtain ⟨i, _, e⟩ := List.mem_map.mp hd
  exact e ▸ .deeds k i
/-! ### what whole tells -/
def pairD (p : Nat × Nat) : PyData := .tuple [.int (p.1 : Int), .int (p.2 : Int)]
def endsD (es : List (Nat × Nat)) : PyData := .list (es.map pairD)
def saidD (sd : List (List V)) : PyData := .list (sd.map fun l => .list (l.map ansD))
theorem ends_dp {K : PySem.W.Frag} {H : Hp} {o : Addr} {ts : List Addr} {es : List (Nat × Nat)} (h : H o = some (.lst (ts.map V.ref))) (pr : Paired (PairAt H) ts es) : Dp K H (.ref o) (endsD es) :=
  .lst (SqL.of h) (dp_of (paired_mapL V.ref (paired_mapR pairD (Paired.mono2 (fun t p z => .tup (SqT.of z) (.cons (.int _) (.cons (.int _) .nil))) pr))))
theorem said_dp {K : PySem.W.Frag} {H : Hp} {a : Addr} {qs : List Addr} {sd : List (List V)} (h : H a = some (.lst (qs.map V.ref))) (pr : Paired (fun q l => H q = some (.lst l)) qs sd) (ok : ∀ l ∈ sd, ∀ v ∈ l, IsAns v) : Dp K H (.ref a) (saidD sd) := by
  refine .lst (SqL.of h) (dp_of (paired_mapL V.ref (paired_mapR _ ?_)))
  have go : ∀ {qs : List Addr} {sd : List (List V)}, Paired (fun q l => H q = some (.lst l)) qs sd → (∀ l ∈ sd, ∀ v ∈ l, IsAns v) → Paired (fun q (l : List V) => Dp K H (.ref q) (.list (l.map ansD))) qs sd := by
    intro qs sd pr ok
    induction pr with
    | nil => exact .nil
    | cons r rs ih => exact .cons (.lst (SqL.of r) (dp_of (paired_self ansD fun v hv => ans_dp (ok _ List.mem_cons_self v hv)))) (ih fun l hl => ok l (List.mem_cons_of_mem _ hl))
  exact go pr ok
theorem Plain.ends (k : Nat) (es : List (Nat × Nat)) : Plain (k + 2) (endsD es) := .lst fun d hd => by
  obtain ⟨p, _, e⟩ := List.mem_map.mp hd
  rw [← e]
  refine .tup fun x hx => ?_
  have hx : x = .int (p.1 : Int) ∨ x = .int (p.2 : Int) := by simpa using hx
  rcases hx with rfl | rfl <;> exact .int k _
theorem Plain.said (k : Nat) {sd : List (List V)} (ok : ∀ l ∈ sd, ∀ v ∈ l, IsAns v) : Plain (k + 2) (saidD sd) := .lst fun d hd => by
  obtain ⟨l, hl, e⟩ := List.mem_map.mp hd
  rw [← e]
  refine .lst fun x hx => ?_
  obtain ⟨v, hv, e2⟩ := List.mem_map.mp hx
  rw [← e2]
  exact .ans k (ok l hl v hv)
/-- as much as whole tells of a state -/
def outD (s : Mach) (w : List Int) : PyData := .tuple [saidD (s.hands.map Hand.said), endsD s.ends, intsD w, .bool s.stale]
theorem Fits.ints {n : Nat} {xs : List Int} (l : xs.length ≤ 100000) : Fits (n + 2) (intsD xs) := .lst _ (by rw [List.length_map]; exact l) fun d hd => by
  obtain ⟨i, _, e⟩ := List.mem_map.mp hd
  exact e ▸ .int n i
theorem Fits.ends {n : Nat} {es : List (Nat × Nat)} (l : es.length ≤ 100000) : Fits (n + 3) (endsD es) := .lst _ (by rw [List.length_map]; exact l) fun d hd => by
  obtain ⟨p, _, e⟩ := List.mem_map.mp hd
  rw [← e]
  refine .tup _ (by show 2 ≤ 100000; decide) fun x hx => ?_
  have hx : x = .int (p.1 : Int) ∨ x = .int (p.2 : Int) := by simpa using hx
  rcases hx with rfl | rfl <;> exact .int n _
theorem Fits.ans {n : Nat} {v : V} (h : IsAns v) : Fits (n + 1) (ansD v) := by
  rcases h with rfl | rfl | ⟨i, rfl⟩
  · exact .str n _
  · exact .non n
  · exact .int n i
theorem Fits.said {n : Nat} {sd : List (List V)} (l : sd.length ≤ 100000) (l2 : ∀ x ∈ sd, x.length ≤ 100000) (ok : ∀ l ∈ sd, ∀ v ∈ l, IsAns v) : Fits (n + 3) (saidD sd) := .lst _ (by rw [List.length_map]; exact l) fun d hd => by
  obtain ⟨x, hx, e⟩ := List.mem_map.mp hd
  rw [← e]
  refine .lst _ (by rw [List.length_map]; exact l2 x hx) fun y hy => ?_
  obtain ⟨v, hv, e2⟩ := List.mem_map.mp hy
  rw [← e2]
  exact .ans (ok x hx v hv)
theorem Okm.rounds {r : Rule} : ∀ {k n : Nat} {s : Mach}, Okm r n s → ∃ m, m ≤ n + 3 * s.toDo r ∧ Okm r m (rounds r k s)
  | 0, n, s, O => ⟨n, by omega, O⟩
  | k + 1, n, s, O => by
    unfold Sk.rounds
    by_cases d : s.done = true
    · rw [if_pos d]
      exact ⟨n, by omega, O⟩
    · rw [if_neg d]
      have d2 : s.done = false := by simpa using d
      have lt := round_lt (r := r) O.base d2
      have O1 := O.play (w := List.range s.hands.length)
      rw [List.length_range] at O1
      have fw := O.few
      obtain ⟨m, h1, h2⟩ := Okm.rounds (k := k) (show Okm r (n + s.hands.length) (s.round r) from O1)
      exact ⟨m, by omega, h2⟩
theorem Okm.whole {r : Rule} {xs : List Int} {ps : List (List Deed)} {ws : List Nat} (h3 : ps.length ≤ 3) (h4 : ∀ ds ∈ ps, ds.length ≤ 4) : ∃ m, m ≤ xs.length + ws.length + 756 ∧ Okm r m (wholeM r (Mach.begun xs ps) ws) := by
  have O0 := (Okm.begun xs ps h3).play (w := ws) (r := r)
  have td0 : (Sk.play r (Mach.begun xs ps) ws).2.toDo r ≤ 252 := Nat.le_trans (play_le (Base.begun xs ps)) (todo_begun xs ps h3 h4)
  obtain ⟨m, h1, h2⟩ := Okm.rounds (k := (Sk.play r (Mach.begun xs ps) ws).2.toDo r) O0
  exact ⟨m, by omega, h2⟩
end Sk


namespace Sk
open PySem PySem.Spec PyProof.Rows L2
/-! as many answers as deeds done; the order grows; a hand that has done all rests -/
section
variable {r : Rule} {s s' : Mach} {i : Nat} {h : Hand} {st : Stp}
theorem Go.grows (G : Go r s i h st s') (hi : s.hands[i]? = some h) : ∃ h' e, s'.hands = s.hands.set i h' ∧ h'.deeds = h.deeds ∧ h'.said.length + h.at_ = h.said.length + h'.at_ ∧ s'.ends = s.ends ++ e := by
  have self : s.hands = s.hands.set i h := by
    obtain ⟨hl, e⟩ := List.getElem?_eq_some_iff.mp hi
    rw [← e, List.set_getElem_self]
  cases G with
  | rests => exact ⟨h, [], self, rfl, rfl, (List.append_nil _).symm⟩
  | takesNew => exact ⟨_, [], rfl, rfl, rfl, (List.append_nil _).symm⟩
  | takesFree => exact ⟨_, [], rfl, rfl, rfl, (List.append_nil _).symm⟩
  | readsPush => exact ⟨_, [], rfl, rfl, rfl, (List.append_nil _).symm⟩
  | links => exact ⟨_, [], rfl, rfl, rfl, (List.append_nil _).symm⟩
  | pushes => exact ⟨_, _, rfl, rfl, by simp [Hand.did]; omega, rfl⟩
  | missPush => exact ⟨_, [], rfl, rfl, rfl, (List.append_nil _).symm⟩
  | meets => exact ⟨_, _, rfl, rfl, by simp [Hand.did]; omega, rfl⟩
  | readsPop => exact ⟨_, [], rfl, rfl, rfl, (List.append_nil _).symm⟩
  | lets => exact ⟨_, [], rfl, rfl, by simp [Hand.did]; omega, (List.append_nil _).symm⟩
  | marks => exact ⟨_, [], rfl, rfl, rfl, (List.append_nil _).symm⟩
  | looks => exact ⟨_, [], rfl, rfl, rfl, (List.append_nil _).symm⟩
  | looksNot => exact ⟨_, [], rfl, rfl, rfl, (List.append_nil _).symm⟩
  | follows => exact ⟨_, [], rfl, rfl, rfl, (List.append_nil _).symm⟩
  | pops => exact ⟨_, _, rfl, rfl, rfl, rfl⟩
  | missPop => exact ⟨_, [], rfl, rfl, rfl, (List.append_nil _).symm⟩
/-- so many answers as deeds done -/
def Toldm (ps : List (List Deed)) (s : Mach) : Prop := s.hands.length = ps.length ∧ ∀ (i : Nat) (h : Hand), s.hands[i]? = some h → h.said.length = h.at_ ∧ ps[i]? = some h.deeds
theorem Toldm.begun (xs : List Int) (ps : List (List Deed)) : Toldm ps (Mach.begun xs ps) := by
  refine ⟨List.length_map .., fun i h hi => ?_⟩
  have hi : (ps.map Hand.new)[i]? = some h := hi
  rw [List.getElem?_map] at hi
  cases e : ps[i]? with
  | none => rw [e] at hi; cases hi
  | some ds =>
    rw [e] at hi
    have := Option.some.inj hi
    subst this
    exact ⟨rfl, rfl⟩
theorem turn_grows (r : Rule) (s : Mach) (i : Nat) : ∃ e, (turn r s i).2.ends = s.ends ++ e := by
  unfold turn
  split
  · exact ⟨[], (List.append_nil _).symm⟩
  · rename_i h hi
    obtain ⟨_, e, _, _, _, q⟩ := (go_kind r s i h).grows hi
    exact ⟨e, q⟩
theorem Toldm.turn {ps : List (List Deed)} (T : Toldm ps s) : Toldm ps (turn r s i).2 := by
  unfold Sk.turn
  split
  · exact T
  · rename_i h hi
    obtain ⟨h', e, q1, q2, q3, _⟩ := (go_kind r s i h).grows hi
    refine ⟨by rw [q1, List.length_set]; exact T.1, fun j g hj => ?_⟩
    rw [q1] at hj
    obtain ⟨t1, t2⟩ := T.2 i h hi
    by_cases e : i = j
    · subst e
      rw [List.getElem?_set_self (List.getElem?_eq_some_iff.mp hi).1] at hj
      have := Option.some.inj hj
      subst this
      exact ⟨by omega, q2 ▸ t2⟩
    · rw [List.getElem?_set_ne e] at hj
      exact T.2 j g hj
theorem Toldm.play {ps : List (List Deed)} : ∀ {w : List Nat} {s : Mach}, Toldm ps s → Toldm ps (play r s w).2
  | [], _, T => T
  | i :: w, s, T => Toldm.play (w := w) (s := (Sk.turn r s i).2) T.turn
theorem play_grows (r : Rule) : ∀ (w : List Nat) (s : Mach), ∃ e, (play r s w).2.ends = s.ends ++ e
  | [], _ => ⟨[], (List.append_nil _).symm⟩
  | i :: w, s => by
    obtain ⟨e1, q1⟩ := turn_grows r s i
    obtain ⟨e2, q2⟩ := play_grows r w (turn r s i).2
    exact ⟨e1 ++ e2, by rw [← List.append_assoc, ← q1]; exact q2⟩
theorem rounds_grows (r : Rule) : ∀ (n : Nat) (s : Mach), ∃ e, (rounds r n s).ends = s.ends ++ e
  | 0, _ => ⟨[], (List.append_nil _).symm⟩
  | n + 1, s => by
    unfold rounds
    split
    · exact ⟨[], (List.append_nil _).symm⟩
    · obtain ⟨e1, q1⟩ := play_grows r (List.range s.hands.length) s
      obtain ⟨e2, q2⟩ := rounds_grows r n (s.round r)
      exact ⟨e1 ++ e2, by rw [← List.append_assoc, ← q1]; exact q2⟩
theorem whole_take (r : Rule) (s : Mach) (w : List Nat) : (wholeM r s w).ends.take (play r s w).2.ends.length = (play r s w).2.ends := by
  obtain ⟨e, q⟩ := rounds_grows r ((play r s w).2.toDo r) (play r s w).2
  unfold wholeM
  rw [q, List.take_left]
theorem turn_full {ps : List (List Deed)} {ds : List Deed} (T : Toldm ps s) (hi : s.hands[i]? = some h) (hd : ps[i]? = some ds) (l : h.said.length = ds.length) : turn r s i = (.rests, s) := by
  obtain ⟨t1, t2⟩ := T.2 i h hi
  rw [hd] at t2
  have := Option.some.inj t2
  subst this
  unfold turn
  rw [hi]
  show go r s i h = _
  have : h.deeds[h.at_]? = none := List.getElem?_eq_none (by omega)
  unfold go
  rw [this]
theorem play_take_fst (r : Rule) (s : Mach) (w : List Nat) (c : Nat) : (play r s (w.take c)).1 = (play r s w).1.take c := by
  have e := play_append (r := r) (w := w.take c) (v := w.drop c) (s := s)
  rw [List.take_append_drop] at e
  rw [e]
  by_cases h : c ≤ w.length
  · have : (play r s (w.take c)).1.length = c := by rw [play_len, List.length_take]; omega
    have q := List.take_left (l₁ := (play r s (w.take c)).1) (l₂ := (play r (play r s (w.take c)).2 (w.drop c)).1)
    rw [this] at q
    exact q.symm
  · rw [List.drop_eq_nil_of_le (by omega)]
    show _ = List.take c ((play r s (w.take c)).1 ++ [])
    rw [List.append_nil]
    exact (List.take_of_length_le (by rw [play_len, List.length_take]; omega)).symm
end
end Sk


/-! How large a search's numbers are; how many states are come to. -/
namespace Sk
open PySem PySem.Spec PyProof.Rows L2
structure Lim (n : Nat) (s : Mach) : Prop where
  count : s.count ≤ n
  hands : ∀ h ∈ s.hands, (∀ t k, h.seen = some (t, k) → k ≤ n) ∧ h.mark ≤ s.vals.length
  zero : ∀ v ∈ s.vals, v = 0
  pz : ∀ h ∈ s.hands, ∀ v, Deed.push v ∈ h.deeds → v = 0
section
variable {r : Rule} {s s' : Mach} {i n m : Nat} {h h' : Hand} {st : Stp}
theorem bump_le (r : Rule) (n : Nat) : bump r n ≤ n + 1 := by
  unfold bump
  cases r with
  | counts m => exact Nat.mod_le _ _
  | marks hs => exact Nat.le_succ _
  | keeps => exact Nat.le_succ _
theorem Lim.mk2 (L : Lim n s) (hi : s.hands[i]? = some h) (eh : s'.hands = s.hands.set i h') (ed : h'.deeds = h.deeds) (c : s'.count ≤ n + 1) (z : ∀ v ∈ s'.vals, v = 0) (vl : s.vals.length ≤ s'.vals.length) (k : (∀ t k, h'.seen = some (t, k) → k ≤ n + 1) ∧ h'.mark ≤ s'.vals.length) : Lim (n + 1) s' := by
  have hm := List.mem_of_getElem? hi
  refine ⟨c, fun g hg => ?_, z, fun g hg v hv => ?_⟩
  · rw [eh] at hg
    rcases mem_set hg with q | q
    · obtain ⟨a1, a2⟩ := L.hands g q
      exact ⟨fun t k e => Nat.le_succ_of_le (a1 t k e), Nat.le_trans a2 vl⟩
    · rw [q]; exact k
  · rw [eh] at hg
    rcases mem_set hg with q | q
    · exact L.pz g q v hv
    · rw [q, ed] at hv
      exact L.pz h hm v hv
theorem Lim.up (L : Lim n s) : Lim (n + 1) s := ⟨Nat.le_succ_of_le L.count, fun h hh => ⟨fun t k e => Nat.le_succ_of_le ((L.hands h hh).1 t k e), (L.hands h hh).2⟩, L.zero, L.pz⟩
theorem Lim.go (L : Lim n s) (B : Bnd m s) (hi : s.hands[i]? = some h) (G : Go r s i h st s') : Lim (n + 1) s' := by
  have hm := List.mem_of_getElem? hi
  obtain ⟨l1, l2⟩ := L.hands h hm
  obtain ⟨b1, b2, b3⟩ := B.hands h hm
  have c1 : s.count ≤ n + 1 := Nat.le_succ_of_le L.count
  have l1' : ∀ t k, h.seen = some (t, k) → k ≤ n + 1 := fun t k e => Nat.le_succ_of_le (l1 t k e)
  have no : ∀ t k, (none : Option (Nat × Nat)) = some (t, k) → k ≤ n + 1 := fun t k e => by cases e
  have now : ∀ t k, some (s.top, s.count) = some (t, k) → k ≤ n + 1 := fun t k e => by
    have := (Prod.mk.inj (Option.some.inj e)).2
    omega
  have bl := bump_le r s.count
  have cb : bump r s.count ≤ n + 1 := by have := L.count; omega
  have pv : ∀ v, h.deeds[h.at_]? = some (.push v) → v = 0 := fun v e => L.pz h hm v (List.mem_of_getElem? e)
  cases G with
  | rests e => exact L.up
  | takesNew v e hc hp =>
    refine L.mk2 hi rfl rfl c1 (fun x hx => ?_) (by rw [List.length_append]; exact Nat.le_add_right _ _) ⟨l1', by rw [List.length_append]; exact Nat.le_trans l2 (Nat.le_add_right _ _)⟩
    rcases List.mem_append.mp hx with q | q
    · exact L.zero x q
    · rw [List.mem_singleton.mp q]; exact pv v e
  | takesFree v c e hc hp =>
    refine L.mk2 hi rfl rfl c1 (fun x hx => ?_) (by rw [List.length_set]; exact Nat.le_refl _) ⟨l1', by rw [List.length_set]; exact l2⟩
    rcases List.mem_or_eq_of_mem_set hx with q | q
    · exact L.zero x q
    · rw [q]; exact pv v e
  | readsPush v e hc hs => exact L.mk2 hi rfl rfl c1 L.zero (Nat.le_refl _) ⟨now, l2⟩
  | links v t k e hc hs hf => exact L.mk2 hi rfl rfl c1 L.zero (Nat.le_refl _) ⟨l1', l2⟩
  | pushes v f e hc hs hf => exact L.mk2 hi rfl rfl cb L.zero (Nat.le_refl _) ⟨no, Nat.zero_le _⟩
  | missPush v t k f e hc hs hf hn => exact L.mk2 hi rfl rfl c1 L.zero (Nat.le_refl _) ⟨no, l2⟩
  | meets e hs ht => exact L.mk2 hi rfl rfl c1 L.zero (Nat.le_refl _) ⟨no, Nat.zero_le _⟩
  | readsPop e hs ht => exact L.mk2 hi rfl rfl c1 L.zero (Nat.le_refl _) ⟨now, l2⟩
  | lets t k e hs hc => exact L.mk2 hi rfl rfl c1 L.zero (Nat.le_refl _) ⟨no, Nat.zero_le _⟩
  | marks t k e hs hc hmk hl hne => exact L.mk2 hi rfl rfl c1 L.zero (Nat.le_refl _) ⟨l1', b2 t k hs⟩
  | looks t k e hs hc hmk hl hne ht => exact L.mk2 hi rfl rfl c1 L.zero (Nat.le_refl _) ⟨l1', l2⟩
  | looksNot t k e hs hc hmk hl hne ht => exact L.mk2 hi rfl rfl c1 L.zero (Nat.le_refl _) ⟨no, l2⟩
  | follows t k e hs hc hmk hf => exact L.mk2 hi rfl rfl c1 L.zero (Nat.le_refl _) ⟨l1', l2⟩
  | pops f e hs hc hmk hf => exact L.mk2 hi rfl rfl cb L.zero (Nat.le_refl _) ⟨l1', l2⟩
  | missPop t k f e hs hc hmk hf hn => exact L.mk2 hi rfl rfl c1 L.zero (Nat.le_refl _) ⟨no, l2⟩
theorem Lim.turn (L : Lim n s) (B : Bnd m s) : Lim (n + 1) (turn r s i).2 := by
  cases hi : s.hands[i]? with
  | none => rw [turn_none hi]; exact L.up
  | some h => rw [turn_some hi]; exact L.go B hi (go_kind r s i h)
theorem Lim.play : ∀ {w : List Nat} {s : Mach} {n m : Nat}, Lim n s → Okm r m s → Lim (n + w.length) (play r s w).2
  | [], _, _, _, L, _ => L
  | j :: w, s, n, m, L, O => by
    have := Lim.play (w := w) (L.turn (r := r) (i := j) O.bnd) (O.turn (i := j))
    rw [show n + (j :: w).length = n + 1 + w.length by rw [List.length_cons]; omega]
    exact this
theorem Lim.begun {k : Nat} {pss : List (List Deed)} (hp : ∀ ds ∈ pss, ∀ v, Deed.push v ∈ ds → v = 0) : Lim 0 (Mach.begun (List.replicate k 0) pss) := by
  refine ⟨Nat.le_refl _, fun h hh => ?_, fun v hv => List.eq_of_mem_replicate hv, fun h hh v hv => ?_⟩
  · obtain ⟨ds, _, e⟩ := List.mem_map.mp (show h ∈ pss.map Hand.new from hh)
    rw [← e]
    exact ⟨fun t k z => (by cases z), Nat.zero_le _⟩
  · obtain ⟨ds, hd, e⟩ := List.mem_map.mp (show h ∈ pss.map Hand.new from hh)
    rw [← e] at hv
    exact hp ds hd v hv
/-- a state's digits are small -/
theorem low_of {r : Rule} {n m : Nat} (L : Lim n s) (O : Okm r m s) (hn : n ≤ 1000) (hm : m ≤ 1000) (h4 : ∀ h ∈ s.hands, h.deeds.length ≤ 4) : s.ps.low := by
  have B := O.bnd
  have vl := B.few.1
  have ln := B.len
  constructor
  · intro d hd
    have hd : d = s.top ∨ d = s.count ∨ (d ∈ s.links.map (· + 1) ∨ d = 0 ∨ d ∈ s.free.map (· + 1) ∨ d = 0 ∨ d ∈ (s.hands.map Hand.ph).flatMap PHand.dig) := by
      simpa [PSt.dig, Mach.ps, or_assoc] using hd
    rcases hd with q | q | q | q | q | q | q
    · have := B.top; omega
    · have := L.count; omega
    · obtain ⟨c, hc, e⟩ := List.mem_map.mp q
      have := B.links c hc
      omega
    · omega
    · obtain ⟨c, hc, e⟩ := List.mem_map.mp q
      have := B.free c hc
      omega
    · omega
    · obtain ⟨x, hx, hd⟩ := List.mem_flatMap.mp q
      obtain ⟨h, hh, e⟩ := List.mem_map.mp hx
      subst e
      obtain ⟨l1, l2⟩ := L.hands h hh
      obtain ⟨b1, b2, b3⟩ := B.hands h hh
      have le := O.le h hh
      have d4 := h4 h hh
      have sn : ∀ t k, h.seen = some (t, k) → t ≤ 1000 ∧ k ≤ 1000 := fun t k e => ⟨by have := b2 t k e; omega, by have := l1 t k e; omega⟩
      have fo : ∀ f, h.follow = some f → f ≤ 1000 := fun f e => by have := b3 f e; omega
      have all : ∀ d ∈ h.ph.dig, d < 1024 := by
        have ha : h.at_ < 1024 := by omega
        have hc : h.cell < 1024 := by omega
        have hmk : h.mark < 1024 := by omega
        unfold Hand.ph
        cases e1 : h.deeds[h.at_]? with
        | none => simp [PHand.dig]; omega
        | some dd =>
          cases dd with
          | push v =>
            cases e2 : h.seen with
            | none => simp [PHand.dig]; omega
            | some p =>
              obtain ⟨t, k⟩ := p
              obtain ⟨s1, s2⟩ := sn t k e2
              dsimp only
              split <;> (simp [PHand.dig]; omega)
          | pop =>
            cases e2 : h.seen with
            | none => simp [PHand.dig]; omega
            | some p =>
              obtain ⟨t, k⟩ := p
              obtain ⟨s1, s2⟩ := sn t k e2
              dsimp only
              split
              · simp [PHand.dig]; omega
              · cases e3 : h.follow with
                | none =>
                  dsimp only
                  split <;> (simp [PHand.dig]; omega)
                | some f =>
                  have := fo f e3
                  simp [PHand.dig]; omega
      exact all d hd
  · show s.vals = List.replicate s.links.length 0
    refine List.eq_replicate_iff.mpr ⟨ln, fun v hv => L.zero v hv⟩
end
end Sk


/-! How many states look alike from there. -/
namespace Sk
open PySem PySem.Spec PyProof.Rows L2
/-- counts are from one on -/
def Posr (r : Rule) : Prop := ∀ m, r = .counts m → 1 ≤ m
/-- how many counts there are -/
def cm : Rule → Nat
  | .counts m => m
  | _ => 1
structure Cm (r : Rule) (s : Mach) : Prop where
  count : s.count < cm r
  hands : ∀ h ∈ s.hands, ∀ t k, h.seen = some (t, k) → k < cm r
def MkR (r : Rule) (s : Mach) : Prop := ∀ i h, s.hands[i]? = some h → h.mark ≠ 0 → mustMark r i = true ∧ h.deeds[h.at_]? = some .pop
section
variable {r : Rule} {s s' : Mach} {i n m : Nat} {h h' : Hand} {st : Stp}
theorem bump_lt (hr : Posr r) (h : s.count < cm r) : bump r s.count < cm r := by
  cases r with
  | counts m =>
    have m1 : 1 ≤ m := hr m rfl
    exact Nat.mod_lt _ m1
  | marks hs => exact h
  | keeps => exact h
theorem Cm.mk2 (C : Cm r s) (hi : s.hands[i]? = some h) (eh : s'.hands = s.hands.set i h') (c : s'.count < cm r) (k : ∀ t k, h'.seen = some (t, k) → k < cm r) : Cm r s' := by
  refine ⟨c, fun g hg => ?_⟩
  rw [eh] at hg
  rcases mem_set hg with q | q
  · exact C.hands g q
  · rw [q]; exact k
theorem Cm.go (hr : Posr r) (C : Cm r s) (hi : s.hands[i]? = some h) (G : Go r s i h st s') : Cm r s' := by
  have ch := C.hands h (List.mem_of_getElem? hi)
  have cc := C.count
  have no : ∀ t k, (none : Option (Nat × Nat)) = some (t, k) → k < cm r := fun t k e => by cases e
  have now : ∀ t k, some (s.top, s.count) = some (t, k) → k < cm r := fun t k e => by
    have := (Prod.mk.inj (Option.some.inj e)).2
    omega
  have cb := bump_lt hr cc
  cases G with
  | rests e => exact C
  | takesNew v e hc hp => exact C.mk2 hi rfl cc ch
  | takesFree v c e hc hp => exact C.mk2 hi rfl cc ch
  | readsPush v e hc hs => exact C.mk2 hi rfl cc now
  | links v t k e hc hs hf => exact C.mk2 hi rfl cc ch
  | pushes v f e hc hs hf => exact C.mk2 hi rfl cb no
  | missPush v t k f e hc hs hf hn => exact C.mk2 hi rfl cc no
  | meets e hs ht => exact C.mk2 hi rfl cc no
  | readsPop e hs ht => exact C.mk2 hi rfl cc now
  | lets t k e hs hc => exact C.mk2 hi rfl cc no
  | marks t k e hs hc hmk hl hne => exact C.mk2 hi rfl cc ch
  | looks t k e hs hc hmk hl hne ht => exact C.mk2 hi rfl cc ch
  | looksNot t k e hs hc hmk hl hne ht => exact C.mk2 hi rfl cc no
  | follows t k e hs hc hmk hf => exact C.mk2 hi rfl cc ch
  | pops f e hs hc hmk hf => exact C.mk2 hi rfl cb ch
  | missPop t k f e hs hc hmk hf hn => exact C.mk2 hi rfl cc no
theorem MkR.mk2 (C : MkR r s) (hi : s.hands[i]? = some h) (eh : s'.hands = s.hands.set i h') (k : h'.mark ≠ 0 → mustMark r i = true ∧ h'.deeds[h'.at_]? = some .pop) : MkR r s' := by
  intro j g hg
  rw [eh] at hg
  rcases get_set_cases (lt_of_get hi) hg with ⟨rfl, rfl⟩ | ⟨_, q⟩
  · exact k
  · exact C j g q
theorem MkR.go (C : MkR r s) (hi : s.hands[i]? = some h) (G : Go r s i h st s') : MkR r s' := by
  have ch := C i h hi
  cases G with
  | rests e => exact C
  | takesNew v e hc hp => exact C.mk2 hi rfl ch
  | takesFree v c e hc hp => exact C.mk2 hi rfl ch
  | readsPush v e hc hs => exact C.mk2 hi rfl ch
  | links v t k e hc hs hf => exact C.mk2 hi rfl ch
  | pushes v f e hc hs hf => exact C.mk2 hi rfl fun z => absurd rfl z
  | missPush v t k f e hc hs hf hn => exact C.mk2 hi rfl ch
  | meets e hs ht => exact C.mk2 hi rfl fun z => absurd rfl z
  | readsPop e hs ht => exact C.mk2 hi rfl ch
  | lets t k e hs hc => exact C.mk2 hi rfl fun z => absurd rfl z
  | marks t k e hs hc hmk hl hne => exact C.mk2 hi rfl fun _ => ⟨hmk, e⟩
  | looks t k e hs hc hmk hl hne ht => exact C.mk2 hi rfl ch
  | looksNot t k e hs hc hmk hl hne ht => exact C.mk2 hi rfl ch
  | follows t k e hs hc hmk hf => exact C.mk2 hi rfl ch
  | pops f e hs hc hmk hf => exact C.mk2 hi rfl ch
  | missPop t k f e hs hc hmk hf hn => exact C.mk2 hi rfl ch
theorem Cm.play (hr : Posr r) : ∀ {w : List Nat} {s : Mach}, Cm r s → Cm r (play r s w).2
  | [], _, C => C
  | j :: w, s, C => by
    refine Cm.play hr (w := w) (s := (turn r s j).2) ?_
    cases hi : s.hands[j]? with
    | none => rw [turn_none hi]; exact C
    | some h => rw [turn_some hi]; exact C.go hr hi (go_kind r s j h)
theorem MkR.play : ∀ {w : List Nat} {s : Mach}, MkR r s → MkR r (play r s w).2
  | [], _, C => C
  | j :: w, s, C => by
    refine MkR.play (w := w) (s := (turn r s j).2) ?_
    cases hi : s.hands[j]? with
    | none => rw [turn_none hi]; exact C
    | some h => rw [turn_some hi]; exact C.go hi (go_kind r s j h)
theorem Cm.begun (hr : Posr r) (zs : List Int) (pss : List (List Deed)) : Cm r (Mach.begun zs pss) := by
  refine ⟨?_, fun h hh t k e => ?_⟩
  · show 0 < cm r
    cases r with
    | counts m => exact hr m rfl
    | marks hs => exact Nat.one_pos
    | keeps => exact Nat.one_pos
  · obtain ⟨ds, _, e2⟩ := List.mem_map.mp (show h ∈ pss.map Hand.new from hh)
    rw [← e2] at e
    cases e
theorem MkR.begun (zs : List Int) (pss : List (List Deed)) : MkR r (Mach.begun zs pss) := fun i h hh z => by
  obtain ⟨ds, _, e2⟩ := List.mem_map.mp (show h ∈ pss.map Hand.new from List.mem_of_getElem? hh)
  rw [← e2] at z
  exact absurd rfl z
end
/-! ### what is left out of a hand, and its own cell's next -/
abbrev Ex := PHand × Option Nat
def hx (m N : Nat) (mk : Bool) (h : AH) : Option Bool → List Ex
  | none => [(⟨h.a, 0, 0, 0, 0, 0, 0⟩, none)]
  | some true => match h.c with
    | 0 => [(⟨h.a, 0, 0, 0, 0, 0, 0⟩, none)]
    | c + 1 => match h.t with
      | 0 => (List.range (N + 1)).map fun l => (⟨h.a, 0, c + 1, 0, 0, 0, 0⟩, some l)
      | t + 1 => (List.range m).flatMap fun k => (⟨h.a, 3, c + 1, t, k, 0, 0⟩, some t) :: (List.range (N + 1)).map fun l => (⟨h.a, 1, c + 1, t, k, 0, 0⟩, some l)
  | some false => (if mk = true then List.range (N + 1) else [0]).flatMap fun x => match h.c with
    | c + 1 => [(⟨h.a, 4, 0, c + 1, 0, 0, x⟩, none)]
    | 0 => match h.t with
      | 0 => [(⟨h.a, 0, 0, 0, 0, 0, x⟩, none)]
      | t + 1 => (List.range m).flatMap fun k => (⟨h.a, 1, 0, t, k, 0, x⟩, none) :: (⟨h.a, 2, 0, t, k, 0, x⟩, none) :: (List.range (N + 1)).map fun f => (⟨h.a, 3, 0, t, k, f, x⟩, none)
def hw (m N : Nat) (mk : Bool) (h : AH) : Option Bool → Nat
  | none => 1
  | some true => match h.c with
    | 0 => 1
    | _ + 1 => match h.t with
      | 0 => N + 1
      | _ + 1 => m * (N + 2)
  | some false => (match mk with
    | true => N + 1
    | false => 1) * (match h.c with
    | _ + 1 => 1
    | 0 => match h.t with
      | 0 => 1
      | _ + 1 => m * (N + 3))
theorem flat_len {α β : Type} {k : Nat} {f : α → List β} : ∀ {l : List α}, (∀ x ∈ l, (f x).length = k) → (l.flatMap f).length = l.length * k
  | [], _ => by simp
  | x :: l, h => by
    rw [List.flatMap_cons, List.length_append, h x List.mem_cons_self, flat_len fun y hy => h y (List.mem_cons_of_mem _ hy), List.length_cons, Nat.succ_mul]
    omega
theorem hx_len (m N : Nat) (mk : Bool) (h : AH) (k : Option Bool) : (hx m N mk h k).length = hw m N mk h k := by
  obtain ⟨a, c, t⟩ := h
  cases k with
  | none => rfl
  | some b =>
    cases b with
    | true =>
      cases c with
      | zero => rfl
      | succ c =>
        cases t with
        | zero => simp [hx, hw]
        | succ t =>
          show ((List.range m).flatMap _).length = m * (N + 2)
          rw [flat_len (k := N + 2) fun x _ => by simp, List.length_range]
    | false =>
      have lm : (if mk = true then List.range (N + 1) else [0]).length = (match mk with | true => N + 1 | false => 1) := by cases mk <;> simp
      show ((if mk = true then List.range (N + 1) else [0]).flatMap _).length = _
      cases c with
      | succ c =>
        rw [flat_len (k := 1) fun x _ => rfl, lm]
        rfl
      | zero =>
        cases t with
        | zero =>
          rw [flat_len (k := 1) fun x _ => rfl, lm]
          rfl
        | succ t =>
          rw [flat_len (k := m * (N + 3)) fun x _ => ?_, lm]
          · rfl
          · show ((List.range m).flatMap _).length = _
            rw [flat_len (k := N + 3) fun x _ => by simp, List.length_range]
def exs (m N : Nat) (mk : Nat → Bool) : Nat → List AH → List (List Bool) → List (List Ex)
  | i, h :: hs, p :: ps => (hx m N (mk i) h (getB p h.a)).flatMap fun e => (exs m N mk (i + 1) hs ps).map (e :: ·)
  | _, _, _ => [[]]
def wts (m N : Nat) (mk : Nat → Bool) : Nat → List AH → List (List Bool) → Nat
  | i, h :: hs, p :: ps => hw m N (mk i) h (getB p h.a) * wts m N mk (i + 1) hs ps
  | _, _, _ => 1
theorem exs_len (m N : Nat) (mk : Nat → Bool) : ∀ (i : Nat) (hs : List AH) (ps : List (List Bool)), (exs m N mk i hs ps).length = wts m N mk i hs ps
  | i, [], ps => by unfold exs wts; rfl
  | i, h :: hs, [] => by unfold exs wts; rfl
  | i, h :: hs, p :: ps => by
    unfold exs wts
    rw [flat_len (k := wts m N mk (i + 1) hs ps) fun x _ => by rw [List.length_map, exs_len m N mk (i + 1) hs ps], hx_len]
theorem exs_mem {m N : Nat} {mk : Nat → Bool} : ∀ {hs : List AH} {ps : List (List Bool)} {es : List Ex} {i : Nat}, hs.length = es.length → ps.length = es.length → (∀ (j : Nat) (h : AH) (p : List Bool) (e : Ex), hs[j]? = some h → ps[j]? = some p → es[j]? = some e → e ∈ hx m N (mk (i + j)) h (getB p h.a)) → es ∈ exs m N mk i hs ps
  | [], ps, [], i, _, _, _ => by unfold exs; exact List.mem_singleton.mpr rfl
  | h :: hs, p :: ps, e :: es, i, l1, l2, k => by
    unfold exs
    refine List.mem_flatMap.mpr ⟨e, k 0 h p e rfl rfl rfl, List.mem_map.mpr ⟨es, exs_mem (by simpa using l1) (by simpa using l2) fun j h' p' e' a b c => ?_, rfl⟩⟩
    have := k (j + 1) h' p' e' (by simpa using a) (by simpa using b) (by simpa using c)
    rw [show i + (j + 1) = i + 1 + j by omega] at this
    exact this
  | [], ps, e :: es, i, l1, _, _ => by simp at l1
  | h :: hs, ps, [], i, l1, _, _ => by simp at l1
  | h :: hs, [], e :: es, i, _, l2, _ => by simp at l2
end Sk


/-! No more states than were counted from there. -/
namespace Sk
open PySem PySem.Spec PyProof.Rows L2
def IdleN (s : Mach) : Prop := ∀ (i : Nat) (h : Hand), s.hands[i]? = some h → h.deeds[h.at_]? = none → h.seen = none
section
variable {r : Rule} {s s' : Mach} {i n m : Nat} {h h' : Hand} {st : Stp}
theorem IdleN.mk2 (C : IdleN s) (hi : s.hands[i]? = some h) (eh : s'.hands = s.hands.set i h') (k : h'.deeds[h'.at_]? = none → h'.seen = none) : IdleN s' := by
  intro j g hg
  rw [eh] at hg
  rcases get_set_cases (lt_of_get hi) hg with ⟨rfl, rfl⟩ | ⟨_, q⟩
  · exact k
  · exact C j g q
theorem IdleN.go (C : IdleN s) (hi : s.hands[i]? = some h) (G : Go r s i h st s') : IdleN s' := by
  have no : ∀ {x : Deed}, h.deeds[h.at_]? = some x → h.deeds[h.at_]? = none → ∀ {X : Prop}, X := fun e z => by rw [e] at z; cases z
  cases G with
  | rests e => exact C
  | takesNew v e hc hp => exact C.mk2 hi rfl fun z => no e z
  | takesFree v c e hc hp => exact C.mk2 hi rfl fun z => no e z
  | readsPush v e hc hs => exact C.mk2 hi rfl fun z => no e z
  | links v t k e hc hs hf => exact C.mk2 hi rfl fun z => no e z
  | pushes v f e hc hs hf => exact C.mk2 hi rfl fun z => rfl
  | missPush v t k f e hc hs hf hn => exact C.mk2 hi rfl fun z => rfl
  | meets e hs ht => exact C.mk2 hi rfl fun z => rfl
  | readsPop e hs ht => exact C.mk2 hi rfl fun z => no e z
  | lets t k e hs hc => exact C.mk2 hi rfl fun z => rfl
  | marks t k e hs hc hmk hl hne => exact C.mk2 hi rfl fun z => no e z
  | looks t k e hs hc hmk hl hne ht => exact C.mk2 hi rfl fun z => no e z
  | looksNot t k e hs hc hmk hl hne ht => exact C.mk2 hi rfl fun z => rfl
  | follows t k e hs hc hmk hf => exact C.mk2 hi rfl fun z => no e z
  | pops f e hs hc hmk hf => exact C.mk2 hi rfl fun z => no e z
  | missPop t k f e hs hc hmk hf hn => exact C.mk2 hi rfl fun z => rfl
theorem IdleN.play : ∀ {w : List Nat} {s : Mach}, IdleN s → IdleN (play r s w).2
  | [], _, C => C
  | j :: w, s, C => by
    refine IdleN.play (w := w) (s := (turn r s j).2) ?_
    cases hi : s.hands[j]? with
    | none => rw [turn_none hi]; exact C
    | some h => rw [turn_some hi]; exact C.go hi (go_kind r s j h)
theorem IdleN.begun (zs : List Int) (pss : List (List Deed)) : IdleN (Mach.begun zs pss) := fun i h hh z => by
  obtain ⟨ds, _, e2⟩ := List.mem_map.mp (show h ∈ pss.map Hand.new from List.mem_of_getElem? hh)
  rw [← e2]
  rfl
end
/-- the programs pss are those of ps' or the same without last deeds -/
def PreB (pss : List (List Deed)) (ps' : List (List Bool)) : Prop := pss.length = ps'.length ∧ ∀ (i : Nat) (ds : List Deed) (p : List Bool), pss[i]? = some ds → ps'[i]? = some p → ∀ (j : Nat) (d : Deed), ds[j]? = some d → p[j]? = some d.isPush
section
variable {r : Rule} {pss : List (List Deed)} {ps' : List (List Bool)} {L : List AS} {k : Nat} {zs : List Int}
theorem abs_begun : Abs (Mach.begun zs pss) (begA zs.length pss.length) := by
  refine ⟨rfl, rfl, ?_, ?_, fun c c1 c2 => ?_⟩
  · show List.replicate pss.length (⟨0, 0, 0⟩ : AH) = (pss.map Hand.new).map ah
    rw [List.map_map]
    exact (List.eq_replicate_iff.mpr ⟨by rw [List.length_map], fun x hx => by obtain ⟨ds, _, e⟩ := List.mem_map.mp hx; exact e.symm⟩).symm
  · rfl
  · rw [hp_false fun h hh => ?_]
    · rfl
    · obtain ⟨ds, _, e⟩ := List.mem_map.mp (show h ∈ pss.map Hand.new from hh)
      rw [← e]
      show (0 : Nat) ≠ c
      omega
theorem abs_play (pre : PreB pss ps') (clo : ∀ A ∈ L, ∀ B ∈ asuccs A 0 A.hs ps', B ∈ L) : ∀ {w : List Nat} {s : Mach} {P : List Nat} {A : AS}, Inv zs pss s P → Abs s A → A ∈ L → (play r s w).2.stale = false → ∃ A', A' ∈ L ∧ Abs (play r s w).2 A'
  | [], s, P, A, _, B, hA, _ => ⟨A, hA, B⟩
  | j :: w, s, P, A, I, B, hA, ns => by
    have ns1 := play_mono (w := w) ns
    obtain ⟨P1, I1⟩ := I.turn (r := r) (i := j) ns1
    cases hi : s.hands[j]? with
    | none =>
      have e : (turn r s j).2 = s := by rw [turn_none hi]
      exact abs_play pre clo (w := w) (s := (turn r s j).2) (P := P1) (A := A) I1 (by rw [e]; exact B) hA ns
    | some h =>
      have hd := (I.hand j h hi).prog
      have lj := (List.getElem?_eq_some_iff.mp hd).1
      obtain ⟨p, ep⟩ : ∃ p, ps'[j]? = some p := ⟨_, List.getElem?_eq_getElem (show j < ps'.length by have := pre.1; omega)⟩
      have G := go_kind r s j h
      rw [← turn_some hi] at G
      have ns2 := ns1
      rcases B.go I hi G ns2 (getB p (ah h).a) (fun d ed => by rw [getB_eq]; exact pre.2 j _ p hd ep _ d ed) with B' | ⟨A', hA', B'⟩
      · exact abs_play pre clo (w := w) (s := (turn r s j).2) (P := P1) (A := A) I1 B' hA ns
      · refine abs_play pre clo (w := w) (s := (turn r s j).2) (P := P1) (A := A') I1 B' (clo A hA A' ?_) ns
        refine asuccs_mem (k := 0) (i := j) (B.hget hi) ep ?_
        rw [Nat.zero_add]
        exact hA'
/-- what is left out of a hand -/
def exOf (s : Mach) (h : Hand) : Ex := (h.ph, if (pushing h && h.cell != 0) = true then some (linkAt s.links h.cell) else none)
theorem ex_in {s : Mach} {P : List Nat} {A : AS} {m n : Nat} {mk : Nat → Bool} (I : Inv zs pss s P) (B : Abs s A) (Bn : Bnd n s) (C : Cm r s) (M : MkR r s) (N : IdleN s) (Mb : ∀ h ∈ s.hands, h.mark ≤ s.vals.length) (pre : PreB pss ps') (hm : cm r ≤ m) (hmk : ∀ i, mustMark r i = true → mk i = true) :
    s.hands.map (exOf s) ∈ exs m A.ls.length mk 0 A.hs ps' := by
  have lens : A.hs.length = (s.hands.map (exOf s)).length := by rw [B.hs, List.length_map, List.length_map]
  refine exs_mem lens ?_ fun j a p e ea ep ee => ?_
  · rw [List.length_map, I.many]; exact pre.1.symm
  · rw [Nat.zero_add]
    have lN : A.ls.length = s.vals.length := by rw [B.len, I.len]
    rw [List.getElem?_map] at ee
    cases hj : s.hands[j]? with
    | none => rw [hj] at ee; cases ee
    | some h =>
      rw [hj] at ee
      have ee : exOf s h = e := Option.some.inj ee
      have e2 := B.hget hj
      rw [ea] at e2
      have e2 := Option.some.inj e2
      subst ee e2
      have hm' := List.mem_of_getElem? hj
      obtain ⟨b1, b2, b3⟩ := Bn.hands h hm'
      have H := I.hand j h hj
      have mb := Mb h hm'
      have hk := pre.2 j _ p H.prog ep
      have em : h.deeds[h.at_]? ≠ some .pop → h.mark = 0 := fun z => Classical.byContradiction fun y => z (M j h hj y).2
      have em2 : mk j = false → h.mark = 0 := fun z => Classical.byContradiction fun y => by
        have := hmk j (M j h hj y).1
        rw [z] at this
        cases this
      have emr : h.mark ∈ (if mk j = true then List.range (A.ls.length + 1) else [0]) := by
        cases z : mk j with
        | true => rw [if_pos rfl, List.mem_range, lN]; omega
        | false => rw [if_neg (by decide), em2 z]; exact List.mem_singleton.mpr rfl
      have lk : ∀ c, linkAt s.links c < A.ls.length + 1 := fun c => by
        unfold linkAt
        cases z : s.links[c - 1]? with
        | none => simp [List.getD, z]
        | some v =>
          have := Bn.links v (List.mem_of_getElem? z)
          simp [List.getD, z]
          omega
      rw [show (ah h).a = h.at_ from rfl, getB_eq]
      cases ed : h.deeds[h.at_]? with
      | none =>
        have c0 := H.idle ed
        have s0 := N j h hj ed
        have m0 := em (by rw [ed]; intro z; cases z)
        have ea : ah h = ⟨h.at_, 0, 0⟩ := by
          unfold ah ahT
          rw [s0, c0]
        have ex : exOf s h = (⟨h.at_, 0, 0, 0, 0, 0, 0⟩, none) := by
          unfold exOf pushing Hand.ph
          rw [ed, m0]
          rfl
        rw [ea, ex]
        cases p[h.at_]? with
        | none => exact List.mem_singleton.mpr rfl
        | some b =>
          cases b with
          | true => exact List.mem_singleton.mpr rfl
          | false =>
            rw [m0] at emr
            exact List.mem_flatMap.mpr ⟨0, emr, List.mem_singleton.mpr rfl⟩
      | some d =>
        rw [hk _ _ ed]
        cases d with
        | push v =>
          obtain ⟨p1, p2⟩ := push_of ed
          have m0 := em (by rw [ed]; intro z; cases z)
          by_cases c0 : h.cell = 0
          · have s0 := H.empty v ed c0
            have ea : ah h = ⟨h.at_, 0, 0⟩ := by
              unfold ah ahT
              rw [s0, c0]
            have ex : exOf s h = (⟨h.at_, 0, 0, 0, 0, 0, 0⟩, none) := by
              unfold exOf Hand.ph
              rw [p1, ed, s0, m0, c0]
              rfl
            rw [ea, ex]
            exact List.mem_singleton.mpr rfl
          · obtain ⟨c, ec⟩ : ∃ c, h.cell = c + 1 := ⟨h.cell - 1, by omega⟩
            have eo : (if (pushing h && h.cell != 0) = true then some (linkAt s.links h.cell) else none) = some (linkAt s.links (c + 1)) := by
              rw [p1, ec]
              rfl
            cases s0 : h.seen with
            | none =>
              have ea : ah h = ⟨h.at_, c + 1, 0⟩ := by
                unfold ah ahT
                rw [s0, ec]
              have ex : exOf s h = (⟨h.at_, 0, c + 1, 0, 0, 0, 0⟩, some (linkAt s.links (c + 1))) := by
                unfold exOf Hand.ph
                rw [eo, ed, s0, m0, ec]
              rw [ea, ex]
              exact List.mem_map.mpr ⟨_, List.mem_range.mpr (lk _), rfl⟩
            | some q =>
              obtain ⟨t, k⟩ := q
              have kl := C.hands h hm' t k s0
              have ea : ah h = ⟨h.at_, c + 1, t + 1⟩ := by
                unfold ah ahT
                rw [s0, ec]
                simp only [p2]
                rfl
              rw [ea]
              refine List.mem_flatMap.mpr ⟨k, List.mem_range.mpr (by omega), ?_⟩
              cases f0 : h.follow with
              | some f =>
                obtain ⟨l1, k2, l2⟩ := (H.pushed v ed c0).2 f f0
                rw [s0] at l2
                have ef : t = f := (Prod.mk.inj (Option.some.inj l2)).1
                have ex : exOf s h = (⟨h.at_, 3, c + 1, t, k, 0, 0⟩, some t) := by
                  unfold exOf Hand.ph
                  rw [eo, ed, s0, f0, m0, ← ec, l1, ef]
                  rfl
                rw [ex]
                exact List.mem_cons_self
              | none =>
                have ex : exOf s h = (⟨h.at_, 1, c + 1, t, k, 0, 0⟩, some (linkAt s.links (c + 1))) := by
                  unfold exOf Hand.ph
                  rw [eo, ed, s0, f0, m0, ec]
                  rfl
                rw [ex]
                exact List.mem_cons_of_mem _ (List.mem_map.mpr ⟨_, List.mem_range.mpr (lk _), rfl⟩)
        | pop =>
          have pn := pop_of ed
          have eo : (if (pushing h && h.cell != 0) = true then some (linkAt s.links h.cell) else none) = none := by rw [pn]; rfl
          refine List.mem_flatMap.mpr ⟨h.mark, emr, ?_⟩
          by_cases c0 : h.cell = 0
          · have pe : pend h = false := by
              unfold pend
              rw [ed]
              simp [c0]
            cases s0 : h.seen with
            | none =>
              have ea : ah h = ⟨h.at_, 0, 0⟩ := by
                unfold ah ahT
                rw [s0, c0]
              have ex : exOf s h = (⟨h.at_, 0, 0, 0, 0, 0, h.mark⟩, none) := by
                unfold exOf Hand.ph
                rw [eo, ed, s0]
              rw [ea, ex]
              exact List.mem_singleton.mpr rfl
            | some q =>
              obtain ⟨t, k⟩ := q
              have kl := C.hands h hm' t k s0
              have ea : ah h = ⟨h.at_, 0, t + 1⟩ := by
                unfold ah ahT
                rw [s0, c0]
                simp only [pe]
                rfl
              rw [ea]
              refine List.mem_flatMap.mpr ⟨k, List.mem_range.mpr (by omega), ?_⟩
              cases f0 : h.follow with
              | some f =>
                have fl := b3 f f0
                have ex : exOf s h = (⟨h.at_, 3, 0, t, k, f, h.mark⟩, none) := by
                  unfold exOf Hand.ph
                  rw [eo, ed, s0, f0, c0]
                  rfl
                rw [ex]
                exact List.mem_cons_of_mem _ (List.mem_cons_of_mem _ (List.mem_map.mpr ⟨f, List.mem_range.mpr (by omega), rfl⟩))
              | none =>
                cases lo : h.looked with
                | true =>
                  have ex : exOf s h = (⟨h.at_, 2, 0, t, k, 0, h.mark⟩, none) := by
                    unfold exOf Hand.ph
                    rw [eo, ed, s0, f0, c0, lo]
                    rfl
                  rw [ex]
                  exact List.mem_cons_of_mem _ List.mem_cons_self
                | false =>
                  have ex : exOf s h = (⟨h.at_, 1, 0, t, k, 0, h.mark⟩, none) := by
                    unfold exOf Hand.ph
                    rw [eo, ed, s0, f0, c0, lo]
                    rfl
                  rw [ex]
                  exact List.mem_cons_self
          · obtain ⟨c, ec⟩ : ∃ c, h.cell = c + 1 := ⟨h.cell - 1, by omega⟩
            have pe : pend h = true := by
              unfold pend
              rw [ed]
              simp [c0]
            have ns := H.kept ed c0
            obtain ⟨q, s0⟩ := Option.ne_none_iff_exists'.mp ns
            obtain ⟨t, k⟩ := q
            have ea : ah h = ⟨h.at_, c + 1, 0⟩ := by
              unfold ah ahT
              rw [s0, ec]
              simp only [pe]
              rfl
            have ex : exOf s h = (⟨h.at_, 4, 0, c + 1, 0, 0, h.mark⟩, none) := by
              unfold exOf Hand.ph
              rw [eo, ed, s0, ec]
              rfl
            rw [ea, ex]
            exact List.mem_singleton.mpr rfl
end
end Sk


/-! The bound. -/
namespace Sk
open PySem PySem.Spec PyProof.Rows L2
theorem rel_len {α β : Type} {R : α → β → Prop} : ∀ {l : List α} {big : List β}, l.Nodup → (∀ a ∈ l, ∃ b, b ∈ big ∧ R a b) → (∀ a a' b, R a b → R a' b → a = a') → l.length ≤ big.length
  | [], _, _, _, _ => Nat.zero_le _
  | a :: l, big, nd, h, inj => by
    classical
    obtain ⟨n1, n2⟩ := List.nodup_cons.mp nd
    obtain ⟨b, hb, rb⟩ := h a List.mem_cons_self
    have ih := rel_len (l := l) (big := big.erase b) n2 (fun c hc => by
      obtain ⟨d, hd, rd⟩ := h c (List.mem_cons_of_mem _ hc)
      refine ⟨d, (List.mem_erase_of_ne fun z => ?_).mpr hd, rd⟩
      subst z
      exact n1 (inj a c d rb rd ▸ hc)) inj
    rw [List.length_erase_of_mem hb] at ih
    have : 0 < big.length := List.length_pos_of_mem hb
    rw [List.length_cons]
    omega
def sumW (m : Nat) (mk : Nat → Bool) (ps' : List (List Bool)) : List AS → Nat
  | [] => 0
  | A :: L => m * wts m A.ls.length mk 0 A.hs ps' + sumW m mk ps' L
def bigL (m : Nat) (mk : Nat → Bool) (ps' : List (List Bool)) (L : List AS) : List (AS × Nat × List Ex) := L.flatMap fun A => (List.range m).flatMap fun c => (exs m A.ls.length mk 0 A.hs ps').map fun es => (A, c, es)
theorem bigL_len (m : Nat) (mk : Nat → Bool) (ps' : List (List Bool)) : ∀ L : List AS, (bigL m mk ps' L).length = sumW m mk ps' L
  | [] => rfl
  | A :: L => by
    have ih := bigL_len m mk ps' L
    unfold bigL at ih ⊢
    rw [List.flatMap_cons, List.length_append, ih]
    show _ = m * wts m A.ls.length mk 0 A.hs ps' + sumW m mk ps' L
    rw [flat_len (k := wts m A.ls.length mk 0 A.hs ps') fun x _ => by rw [List.length_map, exs_len], List.length_range]
section
variable {r : Rule} {pss : List (List Deed)} {ps' : List (List Bool)} {L : List AS} {k : Nat} {zs : List Int}
theorem hp_eq : ∀ {as bs : List Hand} {c : Nat}, as.map (fun h => (pushing h, h.cell)) = bs.map (fun h => (pushing h, h.cell)) → hp as c = hp bs c
  | [], [], c, _ => rfl
  | [], _ :: _, c, h => by cases h
  | _ :: _, [], c, h => by cases h
  | a :: as, b :: bs, c, h => by
    injection h with h1 h2
    have e1 : pushing a = pushing b := (Prod.mk.inj h1).1
    have e2 : a.cell = b.cell := (Prod.mk.inj h1).2
    show ((pushing a && a.cell == c) || hp as c) = ((pushing b && b.cell == c) || hp bs c)
    rw [e1, e2, hp_eq h2]
/-- what is seen of two, and what is left out: they are one -/
theorem same_ps {s t : Mach} {P1 P2 : List Nat} {A : AS} (I1 : Inv zs pss s P1) (I2 : Inv zs pss t P2) (B1 : Abs s A) (B2 : Abs t A) (z1 : ∀ v ∈ s.vals, v = 0) (z2 : ∀ v ∈ t.vals, v = 0) (ec : s.count = t.count) (ee : s.hands.map (exOf s) = t.hands.map (exOf t)) : s.ps = t.ps := by
  have et : s.top = t.top := B1.top.symm.trans B2.top
  have ef : s.free = t.free := B1.fr.symm.trans B2.fr
  have ea : s.hands.map ah = t.hands.map ah := B1.hs.symm.trans B2.hs
  have el : s.links.length = t.links.length := B1.len.symm.trans B2.len
  have ev : s.vals = t.vals := by
    have l1 : s.vals = List.replicate s.links.length 0 := List.eq_replicate_iff.mpr ⟨I1.len, z1⟩
    have l2 : t.vals = List.replicate t.links.length 0 := List.eq_replicate_iff.mpr ⟨I2.len, z2⟩
    rw [l1, l2, el]
  have eph : s.hands.map Hand.ph = t.hands.map Hand.ph := by
    have := congrArg (List.map Prod.fst) ee
    rw [List.map_map, List.map_map] at this
    exact this
  have hl : s.hands.length = t.hands.length := by rw [I1.many, I2.many]
  have ehp : ∀ c, hp s.hands c = hp t.hands c := fun c => by
    refine hp_eq (List.ext_getElem? fun j => ?_)
    rw [List.getElem?_map, List.getElem?_map]
    cases h1 : s.hands[j]? with
    | none =>
      have : t.hands[j]? = none := by
        rw [List.getElem?_eq_none_iff] at h1 ⊢
        omega
      rw [this]
    | some h =>
      have lj := lt_of_get h1
      obtain ⟨g, h2⟩ : ∃ g, t.hands[j]? = some g := ⟨_, List.getElem?_eq_getElem (by omega)⟩
      rw [h2]
      have q1 := (I1.hand j h h1).prog
      have q2 := (I2.hand j g h2).prog
      rw [q1] at q2
      have ed : h.deeds = g.deeds := Option.some.inj q2
      have ej := congrArg (fun l => l[j]?) ea
      simp only [List.getElem?_map, h1, h2] at ej
      have ej : ah h = ah g := Option.some.inj ej
      have e1 : h.at_ = g.at_ := congrArg AH.a ej
      have e2 : h.cell = g.cell := congrArg AH.c ej
      have e3 : pushing h = pushing g := by
        unfold pushing
        rw [ed, e1]
      show some (pushing h, h.cell) = some (pushing g, g.cell)
      rw [e3, e2]
  have en : s.links = t.links := by
    refine List.ext_getElem el fun n h1 h2 => ?_
    have a1 : linkAt s.links (n + 1) = s.links[n] := by
      unfold linkAt
      simp [List.getD, List.getElem?_eq_getElem h1]
    have a2 : linkAt t.links (n + 1) = t.links[n] := by
      unfold linkAt
      simp [List.getD, List.getElem?_eq_getElem h2]
    rw [← a1, ← a2]
    have b1 := B1.ls (n + 1) (by omega) (by omega)
    have b2 := B2.ls (n + 1) (by omega) (by omega)
    cases q : hp s.hands (n + 1) with
    | false =>
      have q2 := ehp (n + 1)
      rw [q] at q2
      rw [q, if_neg (by decide)] at b1
      rw [← q2, if_neg (by decide)] at b2
      rw [← b1, ← b2]
    | true =>
      unfold hp at q
      rw [List.any_eq_true] at q
      obtain ⟨h, hh, hq⟩ := q
      obtain ⟨j, hj⟩ := List.getElem?_of_mem hh
      obtain ⟨p1, p2⟩ := Bool.and_eq_true_iff.mp hq
      have p2 : h.cell = n + 1 := by simpa using p2
      have lj := lt_of_get hj
      obtain ⟨g, hg⟩ : ∃ g, t.hands[j]? = some g := ⟨_, List.getElem?_eq_getElem (by omega)⟩
      have q1 := (I1.hand j h hj).prog
      have q2 := (I2.hand j g hg).prog
      rw [q1] at q2
      have ed : h.deeds = g.deeds := Option.some.inj q2
      have ej := congrArg (fun l => l[j]?) ea
      simp only [List.getElem?_map, hj, hg] at ej
      have ej : ah h = ah g := Option.some.inj ej
      have e1 : h.at_ = g.at_ := congrArg AH.a ej
      have e2 : h.cell = g.cell := congrArg AH.c ej
      have e3 : pushing g = true := by
        rw [← p1]
        unfold pushing
        rw [ed, e1]
      have ex := congrArg (fun l => l[j]?) ee
      simp only [List.getElem?_map, hj, hg] at ex
      have ex : exOf s h = exOf t g := Option.some.inj ex
      have ex := congrArg Prod.snd ex
      unfold exOf at ex
      simp only at ex
      rw [p1, e3, ← e2, p2] at ex
      exact Option.some.inj ex
  unfold Mach.ps
  rw [et, ec, en, ef, ev, eph]
/-- a way that is not stale -/
def WayN (r : Rule) (k : Nat) (pss : List (List Deed)) (T : PSt) : Prop := ∃ w : List Nat, (play r (Mach.begun (List.replicate k 0) pss) w).2.stale = false ∧ T = (play r (Mach.begun (List.replicate k 0) pss) w).2.ps
theorem few_ways {f m : Nat} {mk : Nat → Bool} (h3 : pss.length ≤ 3) (hp0 : ∀ ds ∈ pss, ∀ v, Deed.push v ∈ ds → v = 0) (hr : Posr r) (pre : PreB pss ps') (e : closeA ps' f [begA k ps'.length] .nil [] = some L) (hm : cm r ≤ m) (hmk : ∀ i, mustMark r i = true → mk i = true)
    (l : List PSt) (nd : l.Nodup) (hl : ∀ T ∈ l, WayN r k pss T) : l.length ≤ sumW m mk ps' L := by
  obtain ⟨c1, c2⟩ := close_all e
  rw [← bigL_len]
  refine rel_len (R := fun T b => ∃ w : List Nat, (play r (Mach.begun (List.replicate k 0) pss) w).2.stale = false ∧ T = (play r (Mach.begun (List.replicate k 0) pss) w).2.ps ∧ Abs (play r (Mach.begun (List.replicate k 0) pss) w).2 b.1 ∧ b.2.1 = (play r (Mach.begun (List.replicate k 0) pss) w).2.count ∧
    b.2.2 = (play r (Mach.begun (List.replicate k 0) pss) w).2.hands.map (exOf (play r (Mach.begun (List.replicate k 0) pss) w).2)) nd (fun T hT => ?_) ?_
  · obtain ⟨w, ws, wT⟩ := hl T hT
    have B0 : Abs (Mach.begun (List.replicate k 0) pss) (begA k ps'.length) := by
      have := abs_begun (zs := List.replicate k 0) (pss := pss)
      rw [List.length_replicate, pre.1] at this
      exact this
    obtain ⟨A, hA, B⟩ := abs_play (r := r) pre c2 (Inv.begun (List.replicate k 0) pss) B0 c1 ws
    obtain ⟨P, I⟩ := (Inv.begun (List.replicate k 0) pss).play (r := r) ws
    have O := (Okm.begun (List.replicate k 0) pss h3).play (w := w) (r := r)
    have Lm := (Lim.begun (k := k) hp0).play (r := r) (w := w) (Okm.begun (List.replicate k 0) pss h3)
    have C := (Cm.begun hr (List.replicate k 0) pss).play hr (w := w)
    refine ⟨(A, _, _), List.mem_flatMap.mpr ⟨A, hA, List.mem_flatMap.mpr ⟨(play r (Mach.begun (List.replicate k 0) pss) w).2.count, List.mem_range.mpr (Nat.lt_of_lt_of_le C.count hm), List.mem_map.mpr ⟨_, ?_, rfl⟩⟩⟩, w, ws, wT, B, rfl, rfl⟩
    exact ex_in I B O.bnd C ((MkR.begun (List.replicate k 0) pss).play (w := w)) ((IdleN.begun (List.replicate k 0) pss).play (w := w)) (fun h hh => (Lm.hands h hh).2) pre hm hmk
  · rintro T T' ⟨A, c, es⟩ ⟨w, ws, wT, wB, wc, we⟩ ⟨u, us, uT, uB, uc, ue⟩
    obtain ⟨P1, I1⟩ := (Inv.begun (List.replicate k 0) pss).play (r := r) ws
    obtain ⟨P2, I2⟩ := (Inv.begun (List.replicate k 0) pss).play (r := r) us
    have L1 := (Lim.begun (k := k) hp0).play (r := r) (w := w) (Okm.begun (List.replicate k 0) pss h3)
    have L2' := (Lim.begun (k := k) hp0).play (r := r) (w := u) (Okm.begun (List.replicate k 0) pss h3)
    rw [wT, uT]
    exact same_ps I1 I2 wB uB L1.zero L2'.zero (wc.symm.trans uc) (we.symm.trans ue)
end
end Sk


/-! The values called otherwise, to the end. -/
namespace Sk
open PySem PySem.Spec PyProof.Rows L2
section
variable {r : Rule} {s : Mach} {n : Nat} (f : Int → Int)
theorem done_map : (s.map f).done = s.done := by
  show (s.hands.map (Hand.map f)).all _ = s.hands.all _
  rw [List.all_map]
  congr 1
  funext h
  show decide ((h.deeds.map (mapD f)).length ≤ h.at_) = _
  rw [List.length_map]
theorem rounds_map : ∀ (k : Nat) {s : Mach} {n : Nat}, Bnd n s → rounds r k (s.map f) = (rounds r k s).map f
  | 0, _, _, _ => rfl
  | k + 1, s, n, B => by
    unfold rounds
    rw [done_map]
    by_cases d : s.done = true
    · rw [if_pos d, if_pos d]
    · rw [if_neg d, if_neg d]
      have e : (s.map f).round r = (s.round r).map f := by
        show (play r (s.map f) (List.range (s.hands.map (Hand.map f)).length)).2 = _
        rw [List.length_map, play_map f B]
        rfl
      rw [e]
      exact rounds_map k (s := s.round r) (B.play (w := List.range s.hands.length))
theorem rounds_enough (B : Base s) (h : s.toDo r ≤ n) : rounds r n s = rounds r (s.toDo r) s := by
  by_cases d : s.done = true
  · rw [rounds_end d, rounds_end d]
  · have d : s.done = false := by simpa using d
    rw [rounds_step B d h, rounds_step B d (Nat.le_refl _)]
theorem begun_map (xs : List Int) (ps : List (List Deed)) : (Mach.begun xs ps).map f = Mach.begun (xs.map f) (ps.map (List.map (mapD f))) := by
  unfold Mach.begun Mach.map
  simp only [List.length_map, List.map_map]
  congr 1
theorem play_begun (xs : List Int) (ps : List (List Deed)) (w : List Nat) : play r (Mach.begun (xs.map f) (ps.map (List.map (mapD f)))) w = ((play r (Mach.begun xs ps) w).1.map (mapStp f), (play r (Mach.begun xs ps) w).2.map f) := by
  rw [← begun_map]
  exact play_map f (.begun xs ps)
theorem whole_map (xs : List Int) (ps : List (List Deed)) (w : List Nat) : wholeM r (Mach.begun (xs.map f) (ps.map (List.map (mapD f)))) w = (wholeM r (Mach.begun xs ps) w).map f := by
  have e := congrArg Prod.snd (play_begun (r := r) f xs ps w)
  dsimp only at e
  have b1 := (Base.begun xs ps).play (r := r) (w := w)
  have b2 := (Base.begun (xs.map f) (ps.map (List.map (mapD f)))).play (r := r) (w := w)
  have bd := (Bnd.begun xs ps).play (r := r) (w := w)
  unfold wholeM
  rw [e] at b2 ⊢
  generalize (play r (Mach.begun xs ps) w).2 = s at *
  rw [← rounds_enough b2 (Nat.le_max_left _ (s.toDo r)), rounds_map f _ bd, rounds_enough b1 (Nat.le_max_right _ _)]
theorem act_map (pile : List Int) (d : Deed) : act (pile.map f) (mapD f d) = (mapV f (act pile d).1, (act pile d).2.map f) := by
  cases d with
  | push v => simp [act, mapD, mapV, doneV]
  | pop =>
    cases h : pile.getLast? with
    | none =>
      simp [act, mapD, List.getLast?_map, h, mapV]
    | some v =>
      simp [act, mapD, List.getLast?_map, h, mapV, List.map_dropLast]
theorem actsFrom_map : ∀ (ds : List Deed) (as : List V) (pile : List Int), actsFrom (as.map (mapV f)) (pile.map f) (ds.map (mapD f)) = ((actsFrom as pile ds).1.map (mapV f), (actsFrom as pile ds).2.map f)
  | [], _, _ => rfl
  | d :: ds, as, pile => by
    have ih := actsFrom_map ds (as ++ [(act pile d).1]) (act pile d).2
    unfold actsFrom at ih ⊢
    rw [List.map_cons, List.foldl_cons, List.foldl_cons]
    dsimp only
    rw [act_map]
    dsimp only
    rw [List.map_append] at ih
    exact ih
theorem acts_map (xs : List Int) (ds : List Deed) : acts (xs.map f) (ds.map (mapD f)) = ((acts xs ds).1.map (mapV f), (acts xs ds).2.map f) := actsFrom_map f ds [] xs
theorem mapV_ans {a : V} (h : IsAns a) : IsAns (mapV f a) := by
  rcases h with e | e | ⟨i, e⟩
  · subst e; exact .inl rfl
  · subst e; exact .inr (.inl rfl)
  · subst e; exact .inr (.inr ⟨_, rfl⟩)
end
/-- ninety-nine less it -/
def turned (v : Int) : Int := 99 - v
theorem turned_fit {d : Deed} (h : d.fit) : (mapD turned d).fit := by
  cases d with
  | push v =>
    obtain ⟨h1, h2⟩ : 0 ≤ v ∧ v < 100 := h
    exact ⟨show 0 ≤ 99 - v by omega, show 99 - v < 100 by omega⟩
  | pop => trivial
end Sk


/-! Where no hand that pops stands beside others that pop and push, nothing is stale. -/
namespace Sk
open PySem PySem.Spec PyProof.Rows L2
def popsAt (ps : List (List Deed)) (i : Nat) : Prop := ∃ ds, ps[i]? = some ds ∧ Deed.pop ∈ ds
def pushAt (ps : List (List Deed)) (i : Nat) : Prop := ∃ ds v, ps[i]? = some ds ∧ Deed.push v ∈ ds
/-- a hand that pops, another one that does, another one that pushes -/
def MayB (ps : List (List Deed)) : Prop := ∃ i, popsAt ps i ∧ (∃ j, j ≠ i ∧ popsAt ps j) ∧ ∃ j, j ≠ i ∧ pushAt ps j
/-- what a hand at a pop may count on -/
def Sure (ps : List (List Deed)) (P : List Nat) (s : Mach) (i : Nat) (h : Hand) : Prop := ∀ t k, h.deeds[h.at_]? = some .pop → h.cell = 0 → h.seen = some (t, k) → ((∀ j, j ≠ i → ¬ popsAt ps j) → t ∈ P) ∧ ∀ f, h.follow = some f → linkAt s.links t = f
structure Tame (xs : List Int) (ps : List (List Deed)) (s : Mach) (P : List Nat) : Prop where
  inv : Inv xs ps s P
  fresh : s.stale = false
  told : Toldm ps s
  sure : ∀ i h, s.hands[i]? = some h → Sure ps P s i h
section
variable {xs : List Int} {ps : List (List Deed)} {s s' : Mach} {P : List Nat} {i j : Nat} {h g : Hand} {r : Rule} {st : Stp}
theorem Tame.begun (xs : List Int) (ps : List (List Deed)) : ∃ P, Tame xs ps (Mach.begun xs ps) P := by
  refine ⟨_, Inv.begun xs ps, rfl, .begun xs ps, fun i h hi t k _ _ e => ?_⟩
  have hi : (ps.map Hand.new)[i]? = some h := hi
  rw [List.getElem?_map] at hi
  cases z : ps[i]? with
  | none => rw [z] at hi; cases hi
  | some ds =>
    rw [z] at hi
    rw [← Option.some.inj hi] at e
    cases e
/-- another hand's step -/
theorem Sure.other (nm : ¬ MayB ps) (T : Tame xs ps s P) (hj : s.hands[j]? = some h) (G : Go r s j h st s') (n : i ≠ j) (hi : s.hands[i]? = some g) (S : Sure ps P s i g) : Sure ps (pileBy h st P) s' i g := by
  intro t k hp hc hs
  obtain ⟨s1, s2⟩ := S t k hp hc hs
  have pi := (T.told.2 i g hi).2
  have pj := (T.told.2 j h hj).2
  have ipop : popsAt ps i := ⟨_, pi, List.mem_of_getElem? hp⟩
  have jpop : h.deeds[h.at_]? = some .pop → popsAt ps j := fun e => ⟨_, pj, List.mem_of_getElem? e⟩
  have jpush : ∀ v, h.deeds[h.at_]? = some (.push v) → pushAt ps j := fun v e => ⟨_, v, pj, List.mem_of_getElem? e⟩
  have I := T.inv
  have alone : ∀ v, h.deeds[h.at_]? = some (.push v) → t ∈ P := fun v e => s1 fun j' nj hpj => nm ⟨i, ipop, ⟨j', nj, hpj⟩, j, by omega, jpush v e⟩
  have calm : s'.links = s.links → pileBy h st P = P → (((∀ j, j ≠ i → ¬ popsAt ps j) → t ∈ pileBy h st P) ∧ ∀ f, g.follow = some f → linkAt s'.links t = f) := fun e1 e2 => by
    rw [e1, e2]
    exact ⟨s1, s2⟩
  have pops : h.deeds[h.at_]? = some .pop → s'.links = s.links → (((∀ j, j ≠ i → ¬ popsAt ps j) → t ∈ pileBy h st P) ∧ ∀ f, g.follow = some f → linkAt s'.links t = f) := fun e e1 => by
    rw [e1]
    exact ⟨fun z => absurd (jpop e) (z j (by omega)), s2⟩
  cases G with
  | rests e => exact ⟨s1, s2⟩
  | takesNew v e hcell hpk =>
    have m := alone v e
    obtain ⟨_, m1, m2, _⟩ := I.pileIn m
    exact ⟨fun _ => m, fun f hf => by
      show linkAt (s.links ++ [0]) t = f
      rw [linkAt_append m1 m2]
      exact s2 f hf⟩
  | takesFree v c e hcell hpk => exact calm rfl rfl
  | readsPush v e hcell hsn => exact calm rfl rfl
  | links v t2 k2 e hcell hsn hf2 =>
    have m := alone v e
    obtain ⟨_, m1, m2, m3⟩ := I.pileIn m
    have ne := I.cellNot m3 (by omega) hj
    exact ⟨fun _ => m, fun f hf => by
      show linkAt (s.links.set (h.cell - 1) t2) t = f
      rw [linkAt_set (by omega) m1 ne]
      exact s2 f hf⟩
  | pushes v f2 e hcell hsn hf2 =>
    have m := alone v e
    refine ⟨fun _ => ?_, s2⟩
    unfold pileBy
    rw [e]
    exact List.mem_cons_of_mem _ m
  | missPush v t2 k2 f2 e hcell hsn hf2 nn => exact calm rfl rfl
  | meets e hsn ht => exact pops e rfl
  | readsPop e hsn ht => exact calm rfl rfl
  | lets t2 k2 e hsn hcell => exact pops e rfl
  | marks t2 k2 e hsn hcell hm hl nn => exact calm rfl rfl
  | looks t2 k2 e hsn hcell hm hl nn ht => exact calm rfl rfl
  | looksNot t2 k2 e hsn hcell hm hl nn ht => exact calm rfl rfl
  | follows t2 k2 e hsn hcell hm hf2 => exact calm rfl rfl
  | pops f2 e hsn hcell hm hf2 => exact pops e rfl
  | missPop t2 k2 f2 e hsn hcell hm hf2 nn => exact calm rfl rfl
/-- the hand's own step -/
theorem Sure.own (T : Tame xs ps s P) (hj : s.hands[j]? = some h) (G : Go r s j h st s') : s'.stale = false ∧ ∀ g, s'.hands[j]? = some g → Sure ps (pileBy h st P) s' j g := by
  have S := T.sure j h hj
  have I := T.inv
  have ok := I.hand j h hj
  have jl := lt_of_get hj
  have self : ∀ {hs : List Hand} {h' g : Hand}, hs = s.hands.set j h' → hs[j]? = some g → g = h' := fun {hs h' g} e z => by
    rw [e, List.getElem?_set_self jl] at z
    exact (Option.some.inj z).symm
  have fr := T.fresh
  cases G with
  | rests e => exact ⟨fr, fun g z => by rw [hj] at z; rw [← Option.some.inj z]; exact S⟩
  | takesNew v e hc hp => exact ⟨fr, fun g z t k hpop _ _ => by
      rw [self rfl z] at hpop
      rw [show h.deeds[h.at_]? = some .pop from hpop] at e
      cases e⟩
  | takesFree v c e hc hp => exact ⟨fr, fun g z t k hpop _ _ => by
      rw [self rfl z] at hpop
      rw [show h.deeds[h.at_]? = some .pop from hpop] at e
      cases e⟩
  | readsPush v e hc hs => exact ⟨fr, fun g z t k hpop _ _ => by
      rw [self rfl z] at hpop
      rw [show h.deeds[h.at_]? = some .pop from hpop] at e
      cases e⟩
  | links v t2 k2 e hc hs hf => exact ⟨fr, fun g z t k hpop _ _ => by
      rw [self rfl z] at hpop
      rw [show h.deeds[h.at_]? = some .pop from hpop] at e
      cases e⟩
  | pushes v f e hc hs hf => exact ⟨fr, fun g z t k _ _ hsn => by
      rw [self rfl z] at hsn
      cases hsn⟩
  | missPush v t2 k2 f e hc hs hf n => exact ⟨fr, fun g z t k _ _ hsn => by
      rw [self rfl z] at hsn
      cases hsn⟩
  | meets e hs ht => exact ⟨fr, fun g z t k _ _ hsn => by
      rw [self rfl z] at hsn
      cases hsn⟩
  | readsPop e hs ht => exact ⟨fr, fun g z t k _ _ hsn => by
      have eg := self rfl z
      subst eg
      have et : s.top = t := (Prod.mk.inj (Option.some.inj hsn)).1
      refine ⟨fun _ => ?_, fun f hf => ?_⟩
      · show t ∈ P
        cases P with
        | nil => exact absurd I.chain ht
        | cons c P =>
          have : s.top = c := I.chain.1
          rw [← et, this]
          exact List.mem_cons_self
      · have := (ok.fresh hs).1
        rw [show h.follow = some f from hf] at this
        cases this⟩
  | lets t2 k2 e hs hc => exact ⟨fr, fun g z t k _ _ hsn => by
      rw [self rfl z] at hsn
      cases hsn⟩
  | marks t2 k2 e hs hc hm hl n => exact ⟨fr, fun g z t k _ _ hsn => by
      have eg := self rfl z
      subst eg
      exact S t k e hc hsn⟩
  | looks t2 k2 e hs hc hm hl n ht => exact ⟨fr, fun g z t k _ _ hsn => by
      have eg := self rfl z
      subst eg
      exact S t k e hc hsn⟩
  | looksNot t2 k2 e hs hc hm hl n ht => exact ⟨fr, fun g z t k _ _ hsn => by
      rw [self rfl z] at hsn
      cases hsn⟩
  | follows t2 k2 e hs hc hm hf => exact ⟨fr, fun g z t k _ _ hsn => by
      have eg := self rfl z
      subst eg
      have hsn : h.seen = some (t, k) := hsn
      refine ⟨(S t k e hc hsn).1, fun f hf2 => ?_⟩
      rw [hs] at hsn
      have et : t2 = t := (Prod.mk.inj (Option.some.inj hsn)).1
      rw [← et]
      exact Option.some.inj hf2⟩
  | pops f e hs hc hm hf =>
    obtain ⟨_, s2⟩ := S s.top s.count e hc hs
    refine ⟨?_, fun g z t k _ hc2 _ => ?_⟩
    · show (s.stale || (linkAt s.links s.top != f)) = false
      rw [fr, s2 f hf]
      simp
    · have eg := self rfl z
      subst eg
      exact absurd hc2 (ok.seen e s.top s.count hs)
  | missPop t2 k2 f e hs hc hm hf n => exact ⟨fr, fun g z t k _ _ hsn => by
      rw [self rfl z] at hsn
      cases hsn⟩
theorem Tame.turn (nm : ¬ MayB ps) (T : Tame xs ps s P) (j : Nat) : ∃ P', Tame xs ps (Sk.turn r s j).2 P' := by
  cases hj : s.hands[j]? with
  | none => rw [turn_none hj]; exact ⟨P, T⟩
  | some h =>
    have G := go_kind r s j h
    obtain ⟨o1, o2⟩ := Sure.own T hj G
    have Td := T.told.turn (r := r) (i := j)
    rw [turn_some hj] at Td ⊢
    refine ⟨_, T.inv.go hj G o1, o1, Td, fun i g hi => ?_⟩
    by_cases q : i = j
    · subst q
      exact o2 g hi
    · have e : (go r s j h).2.hands[i]? = s.hands[i]? := by
        rcases G.hands with z | ⟨h', z, _⟩
        · rw [z]
        · rw [z, List.getElem?_set_ne (by omega)]
      rw [e] at hi
      exact Sure.other nm T hj G q hi (T.sure i g hi)
/-- nothing is stale -/
theorem never_may (nm : ¬ MayB ps) : ∀ {w : List Nat} {s : Mach} {P : List Nat}, Tame xs ps s P → (Sk.play r s w).2.stale = false
  | [], _, _, T => T.fresh
  | j :: w, s, P, T => by
    obtain ⟨P', T'⟩ := T.turn (r := r) nm j
    exact never_may nm (w := w) T'
end
end Sk


/-! The first stale step of a weaving; rules by which there may be one; the cases gone through. -/
namespace Sk
open PySem PySem.Spec PyProof.Rows L2
section
variable {r : Rule} {s s' : Mach} {i : Nat} {h : Hand} {st : Stp}
theorem first_bad : ∀ {w : List Nat} {s : Mach}, s.stale = false → (play r s w).2.stale = true → ∃ u i v, w = u ++ i :: v ∧ (play r s u).2.stale = false ∧ (turn r (play r s u).2 i).2.stale = true
  | [], s, h, z => by
    have z : s.stale = true := z
    rw [h] at z
    cases z
  | j :: w, s, h, z => by
    cases q : (turn r s j).2.stale with
    | true => exact ⟨[], j, w, rfl, h, q⟩
    | false =>
      obtain ⟨u, i, v, e1, e2, e3⟩ := first_bad (w := w) (s := (turn r s j).2) q z
      exact ⟨j :: u, i, v, by rw [e1]; rfl, e2, e3⟩
theorem stale_ex (h0 : s.stale = false) (h1 : (turn r s i).2.stale = true) : ∃ f, (turn r s i).1 = .exchanges f := by
  cases hi : s.hands[i]? with
  | none =>
    rw [turn_none hi] at h1
    rw [h0] at h1
    cases h1
  | some h =>
    have G := go_kind r s i h
    rw [turn_some hi] at h1 ⊢
    generalize go r s i h = o at *
    obtain ⟨st, s'⟩ := o
    simp only at G h1 ⊢
    cases G with
    | pops f e hs hc hmk hf => exact ⟨f, rfl⟩
    | _ => exact absurd (h0.symm.trans h1) (by decide)
end
theorem marks_all {hs : List Nat} {n : Nat} (p : hs.Pairwise (· < ·)) (lt : ∀ h ∈ hs, h < n) : (hs.length = n → ∀ i, i < n → i ∈ hs) ∧ (hs.length ≠ n → ∃ j, j < n ∧ j ∉ hs) := by
  have nd : hs.Nodup := List.nodup_iff_pairwise_ne.mpr (p.imp fun h => Nat.ne_of_lt h)
  have le : hs.length ≤ (List.range n).length := nodup_len nd fun x hx => List.mem_range.mpr (lt x hx)
  constructor
  · intro e i hi
    refine Classical.byContradiction fun z => ?_
    have := nodup_len (l := hs) (m := (List.range n).erase i) nd fun x hx => (List.mem_erase_of_ne (show x ≠ i from fun y => z (by rw [← y]; exact hx))).mpr (List.mem_range.mpr (lt x hx))
    rw [List.length_erase_of_mem (List.mem_range.mpr hi), List.length_range] at this
    omega
  · intro e
    refine Classical.byContradiction fun z => ?_
    have all : ∀ j, j < n → j ∈ hs := fun j hj => Classical.byContradiction fun y => z ⟨j, hj, y⟩
    have := nodup_len (l := List.range n) (m := hs) List.nodup_range fun x hx => all x (List.mem_range.mp hx)
    rw [List.length_range] at this le
    omega
/-- the closed list of a case is small enough for each rule that is no safe one -/
def okCase (D : Nat) (n : Nat) (ps' : List (List Bool)) : Bool := match closeA ps' 1000000 [begA n ps'.length] .nil [] with
  | none => false
  | some L => Nat.blt (sumW D (fun _ => false) ps' L) 16777216 && (List.range ps'.length).all fun j => Nat.blt (sumW 1 (fun i => !(Nat.beq i j)) ps' L) 16777216
/-- such a rule -/
def RuleD (D k : Nat) : Rule → Prop
  | .keeps => False
  | .counts m => 1 ≤ m ∧ m ≤ D
  | .marks hs => ∃ j, j < k ∧ j ∉ hs
theorem few_ok {r : Rule} {pss : List (List Deed)} {ps' : List (List Bool)} {n D : Nat} (h3 : pss.length ≤ 3) (hp0 : ∀ ds ∈ pss, ∀ v, Deed.push v ∈ ds → v = 0) (pre : PreB pss ps') (ok : okCase D n ps' = true) (hr : RuleD D pss.length r) (l : List PSt) (nd : l.Nodup) (hl : ∀ T ∈ l, WayN r n pss T) : l.length < 16777216 := by
  unfold okCase at ok
  split at ok
  · cases ok
  · rename_i L e
    obtain ⟨o1, o2⟩ := Bool.and_eq_true_iff.mp ok
    rw [Nat.blt_eq] at o1
    cases r with
    | keeps => exact hr.elim
    | counts m =>
      have := few_ways (r := .counts m) (m := D) (mk := fun _ => false) h3 hp0 (fun m' z => by cases z; exact hr.1) pre e hr.2 (fun i z => by cases z) l nd hl
      omega
    | marks hs =>
      obtain ⟨j, hj, nj⟩ := hr
      have := few_ways (r := .marks hs) (m := 1) (mk := fun i => !(Nat.beq i j)) h3 hp0 (fun m' z => by cases z) pre e (Nat.le_refl _) (fun i z => by
        cases q : Nat.beq i j with
        | false => rfl
        | true =>
          have z : hs.contains i = true := z
          rw [Nat.eq_of_beq_eq_true q] at z
          exact absurd (by simpa using z) nj) l nd hl
      have o3 := List.all_eq_true.mp o2 j (List.mem_range.mpr (by rw [← pre.1]; exact hj))
      rw [Nat.blt_eq] at o3
      omega
def preB (a b : List (List Bool)) : Bool := Nat.beq a.length b.length && (a.zip b).all fun p => p.1.isPrefixOf p.2
def bits (ps : List (List Deed)) : List (List Bool) := ps.map (List.map Deed.isPush)
theorem preB_ok {ps : List (List Deed)} {b : List (List Bool)} (h : preB (bits ps) b = true) : PreB (ps.map (List.map (mapD fun _ => 0))) b := by
  obtain ⟨h1, h2⟩ := Bool.and_eq_true_iff.mp h
  have h1 := Nat.eq_of_beq_eq_true h1
  unfold bits at h1
  rw [List.length_map] at h1
  refine ⟨by rw [List.length_map]; exact h1, fun i ds p e1 e2 j d e3 => ?_⟩
  rw [List.getElem?_map] at e1
  cases e : ps[i]? with
  | none => rw [e] at e1; cases e1
  | some ds0 =>
    rw [e] at e1
    have e1 : ds0.map (mapD fun _ => 0) = ds := Option.some.inj e1
    subst e1
    have hz : ((bits ps).zip b)[i]? = some (ds0.map Deed.isPush, p) := by
      unfold bits
      rw [List.getElem?_zip_eq_some]
      exact ⟨by rw [List.getElem?_map, e]; rfl, e2⟩
    have pr := List.all_eq_true.mp h2 _ (List.mem_of_getElem? hz)
    have pr := List.isPrefixOf_iff_prefix.mp pr
    rw [List.getElem?_map] at e3
    cases e4 : ds0[j]? with
    | none => rw [e4] at e3; cases e3
    | some d0 =>
      rw [e4] at e3
      have e3 : mapD (fun _ => 0) d0 = d := Option.some.inj e3
      subst e3
      have e5 : (ds0.map Deed.isPush)[j]? = some d0.isPush := by rw [List.getElem?_map, e4]; rfl
      obtain ⟨t, et⟩ := pr
      have e5' : (ds0.map Deed.isPush)[j]? = some d0.isPush := e5
      rw [← show ds0.map Deed.isPush ++ t = p from et, List.getElem?_append_left (List.getElem?_eq_some_iff.mp e5).1, e5']
      cases d0 <;> rfl
/-- whether a hand that pops stands beside others that pop and push -/
def mayBits (b : List (List Bool)) : Bool := (List.range b.length).any fun i => (b.getD i []).contains false && ((List.range b.length).any fun j => !(Nat.beq j i) && (b.getD j []).contains false) && (List.range b.length).any fun j => !(Nat.beq j i) && (b.getD j []).contains true
theorem mayBits_of {ps : List (List Deed)} (h : MayB ps) : mayBits (bits ps) = true := by
  obtain ⟨i, ⟨ds, a1, a2⟩, ⟨j, b1, ds1, b2, b3⟩, j2, c1, ds2, v, c2, c3⟩ := h
  have gd : ∀ {k : Nat} {ds : List Deed}, ps[k]? = some ds → (bits ps).getD k [] = ds.map Deed.isPush ∧ k < (bits ps).length := fun {k ds} e => by
    have e2 : (bits ps)[k]? = some (ds.map Deed.isPush) := by unfold bits; rw [List.getElem?_map, e]; rfl
    exact ⟨by simp [List.getD, e2], (List.getElem?_eq_some_iff.mp e2).1⟩
  have nb : ∀ {a b : Nat}, a ≠ b → (!(Nat.beq a b)) = true := fun {a b} z => by
    cases q : Nat.beq a b with
    | false => rfl
    | true => exact absurd (Nat.eq_of_beq_eq_true q) z
  obtain ⟨g1, l1⟩ := gd a1
  obtain ⟨g2, l2⟩ := gd b2
  obtain ⟨g3, l3⟩ := gd c2
  unfold mayBits
  refine List.any_eq_true.mpr ⟨i, List.mem_range.mpr l1, ?_⟩
  rw [Bool.and_eq_true, Bool.and_eq_true]
  refine ⟨⟨?_, List.any_eq_true.mpr ⟨j, List.mem_range.mpr l2, ?_⟩⟩, List.any_eq_true.mpr ⟨j2, List.mem_range.mpr l3, ?_⟩⟩
  · rw [g1, List.contains_iff_mem]
    exact List.mem_map.mpr ⟨_, a2, rfl⟩
  · rw [g2, Bool.and_eq_true, List.contains_iff_mem]
    exact ⟨nb b1, List.mem_map.mpr ⟨_, b3, rfl⟩⟩
  · rw [g3, Bool.and_eq_true, List.contains_iff_mem]
    exact ⟨nb c1, List.mem_map.mpr ⟨_, c3, rfl⟩⟩
end Sk


/-! Two hands of few deeds: which there are. -/
namespace Sk
open PySem PySem.Spec PyProof.Rows L2
def bO (c k : Nat) (x : Bool) : List Bool := (([false, false, true] : List Bool).drop c).take k ++ [x] ++ (([false, false, true] : List Bool).drop c).drop k
def fewO : List (List Bool) := (List.range 3).flatMap fun c => [false, true].flatMap fun x => (List.range (4 - c)).flatMap fun k => if 3 < (bO c k x).length then bO c k x :: (List.range 3).map fun j => (bO c k x).eraseIdx j else [bO c k x]
def fewAll : List (List (List Bool)) := [false, true].flatMap fun y => fewO.flatMap fun o => [[[y], o], [o, [y]]]
theorem few_in {y : Bool} {o : List Bool} (h : o ∈ fewO) : [[y], o] ∈ fewAll ∧ [o, [y]] ∈ fewAll := by
  have hy : y ∈ [false, true] := by cases y <;> simp
  exact ⟨List.mem_flatMap.mpr ⟨y, hy, List.mem_flatMap.mpr ⟨o, h, List.mem_cons_self⟩⟩, List.mem_flatMap.mpr ⟨y, hy, List.mem_flatMap.mpr ⟨o, h, List.mem_cons_of_mem _ List.mem_cons_self⟩⟩⟩
theorem fewO_in {c k : Nat} {x : Bool} (hc : c < 3) (hk : k ≤ 3 - c) : bO c k x ∈ fewO ∧ (3 < (bO c k x).length → ∀ j, j < 3 → (bO c k x).eraseIdx j ∈ fewO) := by
  have hx : x ∈ [false, true] := by cases x <;> simp
  have go : ∀ o, o ∈ (if 3 < (bO c k x).length then bO c k x :: (List.range 3).map fun j => (bO c k x).eraseIdx j else [bO c k x]) → o ∈ fewO := fun o ho => List.mem_flatMap.mpr ⟨c, List.mem_range.mpr hc, List.mem_flatMap.mpr ⟨x, hx, List.mem_flatMap.mpr ⟨k, List.mem_range.mpr (by omega), ho⟩⟩⟩
  constructor
  · refine go _ ?_
    split
    · exact List.mem_cons_self
    · exact List.mem_singleton.mpr rfl
  · intro h j hj
    refine go _ ?_
    rw [if_pos h]
    exact List.mem_cons_of_mem _ (List.mem_map.mpr ⟨j, List.mem_range.mpr hj, rfl⟩)
theorem map_erase {α β : Type} (f : α → β) : ∀ (l : List α) (j : Nat), (l.eraseIdx j).map f = (l.map f).eraseIdx j
  | [], _ => rfl
  | x :: l, 0 => rfl
  | x :: l, j + 1 => by
    rw [List.eraseIdx_cons_succ, List.map_cons, List.map_cons, List.eraseIdx_cons_succ, map_erase f l j]
/-- the other hand's deeds -/
def dO (v : Int) (c k : Nat) (d : Deed) : List Deed := (([Deed.pop, .pop, .push v] : List Deed).drop c).take k ++ [d] ++ (([Deed.pop, .pop, .push v] : List Deed).drop c).drop k
theorem dO_bits (v : Int) (c k : Nat) (d : Deed) : (dO v c k d).map Deed.isPush = bO c k d.isPush := by
  unfold dO bO
  rw [List.map_append, List.map_append, List.map_take, List.map_drop, List.map_drop, List.map_drop]
  rfl
theorem dO_fit {v : Int} {c k : Nat} {d : Deed} (hv : 0 ≤ v ∧ v < 100) (hd : d.fit) (hc : c < 3) (hk : k ≤ 3 - c) : (dO v c k d).length = 4 - c ∧ ∀ e ∈ dO v c k d, e.fit := by
  constructor
  · unfold dO
    simp
    omega
  · intro e he
    unfold dO at he
    rw [List.mem_append, List.mem_append] at he
    have base : ∀ e ∈ ([Deed.pop, .pop, .push v] : List Deed), e.fit := fun e he => by
      simp only [List.mem_cons, List.not_mem_nil, or_false] at he
      rcases he with z | z | z
      · rw [z]; trivial
      · rw [z]; trivial
      · rw [z]; exact hv
    rcases he with (z | z) | z
    · exact base e (List.mem_of_mem_drop (List.mem_of_mem_take z))
    · rw [List.mem_singleton.mp z]; exact hd
    · exact base e (List.mem_of_mem_drop (List.mem_of_mem_drop z))
/-- those that go furthest: all others that may be stale are these without last deeds -/
def fewMax : List (List (List Bool)) :=
  let os : List (List Bool) := [[false, false, false, true], [false, false, true, false], [false, false, true, true], [false, true, false, true], [true, false, false, true], [false, true, true], [true, false, true]]
  os.flatMap fun o => [[[false], o], [o, [false]]]
theorem few_max : ∀ b ∈ fewAll, mayBits b = true → ∃ m ∈ fewMax, preB b m = true := by decide +kernel
end Sk


/-! The package's steps: what each def of them promises. -/
namespace Sk
open PySem PySem.Spec PyProof.Rows L2
/-- the numbers of the module steps -/
structure TxC (mg : Str → Option Value) : Prop where
  TOP : IntG mg "TOP" 0
  COUNT : IntG mg "COUNT" 1
  NEXTS : IntG mg "NEXTS" 2
  FREE : IntG mg "FREE" 3
  VALUES : IntG mg "VALUES" 4
  HANDS : IntG mg "HANDS" 5
  NUMBER : IntG mg "NUMBER" 0
  PHASE : IntG mg "PHASE" 1
  CELL : IntG mg "CELL" 2
  TOP_READ : IntG mg "TOP_READ" 3
  COUNT_READ : IntG mg "COUNT_READ" 4
  FOLLOWED : IntG mg "FOLLOWED" 5
  MARK : IntG mg "MARK" 6
  TO_READ : IntG mg "TO_READ" 0
  HAS_READ : IntG mg "HAS_READ" 1
  HAS_LOOKED : IntG mg "HAS_LOOKED" 2
  TO_EXCHANGE : IntG mg "TO_EXCHANGE" 3
  HAS_EXCHANGED : IntG mg "HAS_EXCHANGED" 4
/-- its defs -/
structure TxS (K : PySem.W.Frag) (mg : Str → Option Value) : Prop where
  ahead_of : DefAt K mg "ahead_of" s_ahead_of
  first_state : DefAt K mg "first_state" s_first_state
  replaced : DefAt K mg "replaced" s_replaced
  with_hand : DefAt K mg "with_hand" s_with_hand
  with_deed_done : DefAt K mg "with_deed_done" s_with_deed_done
  to_read_anew : DefAt K mg "to_read_anew" s_to_read_anew
  place_to_take : DefAt K mg "place_to_take" s_place_to_take
  take : DefAt K mg "take" s_take
  read : DefAt K mg "read" s_read
  link : DefAt K mg "link" s_link
  mark_or_look : DefAt K mg "mark_or_look" s_mark_or_look
  follow : DefAt K mg "follow" s_follow
  with_top : DefAt K mg "with_top" s_with_top
  exchange : DefAt K mg "exchange" s_exchange
  let_go : DefAt K mg "let_go" s_let_go
  step : DefAt K mg "step" s_step
  c : TxC mg
  pop : ∃ p, TxPop K mg p
  len : mg "len" = none
  tuple : mg "tuple" = none
  range : mg "range" = none
  enumerate : mg "enumerate" = none
/-- the built-in names -/
structure TxBu (mg : Str → Option Value) : Prop where
  len : mg "len" = none
  tuple : mg "tuple" = none
  range : mg "range" = none
  enumerate : mg "enumerate" = none
theorem TxS.toB {K : PySem.W.Frag} {mg : Str → Option Value} (T : TxS K mg) : TxBu mg := ⟨T.len, T.tuple, T.range, T.enumerate⟩
def spReplaced : Sp := fun vs H Q _ => ∃ (a : Addr) (xs : List V) (k : Nat) (v : V), vs = [.ref a, .int (k : Int), v] ∧ H a = some (.tup xs) ∧ k < xs.length ∧ xs.length ≤ 200000 ∧
  ∀ p H', Same H H' → H' p = some (.tup (xs.set k v)) → Q (.ref p) H'
def spAhead : Sp := fun vs H Q _ => ∃ n : Nat, vs = [.int (n : Int)] ∧ ∀ p H', Same H H' → NT H' p (PHand.ahead n).list → Q (.ref p) H'
def spAnew : Sp := fun vs H Q _ => ∃ (a : Addr) (x : PHand), vs = [.ref a] ∧ NT H a x.list ∧ ∀ p H', Same H H' → NT H' p x.anew.list → Q (.ref p) H'
theorem set_cut {α : Type} : ∀ {xs : List α} {k : Nat} {v : α}, k < xs.length → xs.take k ++ [v] ++ xs.drop (k + 1) = xs.set k v
  | x :: xs, 0, v, _ => by simp
  | x :: xs, k + 1, v, h => by
    have := set_cut (xs := xs) (k := k) (v := v) (by simpa using h)
    simpa using this
section
variable {P : Program} {w : World} {K : PySem.W.Frag} {mg : Str → Option Value} {base : Heap}
theorem scReplaced : FnScope ["items", "at", "item"] ["items", "at", "item"] (defScope s_replaced) := ⟨rfl, rfl, rfl, by decide +kernel, rfl, by decide +kernel, by decide +kernel⟩
theorem cal_replaced (D : DefAt K mg "replaced" s_replaced) : C8.Cal P w K mg base 1 "replaced" spReplaced [] := by
  obtain ⟨f, fd, F, g⟩ := D.ex
  refine cal_of F g (F.bindsN fun _ _ _ _ _ _ us hl => match us, hl with | [_, _, _], _ => rfl) (fok F scReplaced (fun vs H Q E h => ?_) (fun cdv A outer s H vs Q E hr h => ?_))
  · obtain ⟨a, xs, k, v, rfl, _⟩ := h
    rfl
  · obtain ⟨a, xs, k, v, rfl, e, hk, hl, fin⟩ := h
    refine ⟨_, (pss_one (ps_ret (pe_op op_catA (pe_op op_catA (pe_slice sl_tupA (pv 0) po_none (po_some (pv 1))) (pe_tup (pa_cons (pv 2) pa_nil))) (pe_slice sl_tupA (pv 0) (po_some (pe_op op_add (pv 1) pe_int)) po_none)))), ?_⟩
    refine ⟨_, rfl, _, rfl, (k : Int), rfl, sl_take e (by omega) fun b1 H1 s1 e1 => ⟨_, rfl, by show 1 ≤ sizeLine; decide, fun p np => ?_⟩⟩
    have e1' := same_upd (o := .tup [v]) np _ _ e1
    refine cat_tup e1' upd_same ?_ fun b2 H2 s2 e2 => ?_
    · rw [sizeLine_eq, List.length_take]
      show min k xs.length + 1 ≤ _
      omega
    · have s02 : Same H H2 := (s1.trans (same_upd np)).trans s2
      refine ⟨_, rfl, _, rfl, _, _, rfl, rfl, ((k + 1 : Nat) : Int), rfl, ?_⟩
      dsimp only [tNoPart]
      refine sl_drop (k := k + 1) (s02 _ _ e) (by omega) fun b3 H3 s3 e3 => ?_
      refine cat_tup (s3 _ _ e2) e3 ?_ fun b4 H4 s4 e4 => fin b4 H4 ((s02.trans s3).trans s4) ?_
      · rw [sizeLine_eq, List.length_append, List.length_take, List.length_drop]
        show min k xs.length + 1 + (xs.length - (k + 1)) ≤ _
        omega
      · rw [e4, set_cut hk]
theorem scAhead : FnScope ["number"] ["number"] (defScope s_ahead_of) := ⟨rfl, rfl, rfl, by decide +kernel, rfl, by decide +kernel, by decide +kernel⟩
theorem cal_ahead (D : DefAt K mg "ahead_of" s_ahead_of) (C : TxC mg) : C8.Cal P w K mg base 1 "ahead_of" spAhead [] := by
  obtain ⟨f, fd, F, g⟩ := D.ex
  refine cal_of F g (F.bindsN fun _ _ _ _ _ _ us hl => match us, hl with | [_], _ => rfl) (fok F scAhead (fun vs H Q E h => ?_) (fun cdv A outer s H vs Q E hr h => ?_))
  · obtain ⟨n, rfl, _⟩ := h
    rfl
  · obtain ⟨n, rfl, fin⟩ := h
    refine ⟨_, (pss_one (ps_ret (pe_tup (pa_cons (pv 0) (pa_cons (pe_num (n := 0) rfl C.TO_READ) (pa_cons pe_int (pa_cons pe_int (pa_cons pe_int (pa_cons pe_int (pa_cons pe_int pa_nil)))))))))), ?_⟩
    exact ⟨_, rfl, by show 7 ≤ sizeLine; decide, fun p np => fin p _ (same_upd np) upd_same⟩
theorem scAnew : FnScope ["doing"] ["doing"] (defScope s_to_read_anew) := ⟨rfl, rfl, rfl, by decide +kernel, rfl, by decide +kernel, by decide +kernel⟩
theorem cal_anew (D : DefAt K mg "to_read_anew" s_to_read_anew) (C : TxC mg) : C8.Cal P w K mg base 1 "to_read_anew" spAnew [] := by
  obtain ⟨f, fd, F, g⟩ := D.ex
  refine cal_of F g (F.bindsN fun _ _ _ _ _ _ us hl => match us, hl with | [_], _ => rfl) (fok F scAnew (fun vs H Q E h => ?_) (fun cdv A outer s H vs Q E hr h => ?_))
  · obtain ⟨a, x, rfl, _⟩ := h
    rfl
  · obtain ⟨a, x, rfl, e, fin⟩ := h
    refine ⟨_, (pss_one (ps_ret (pe_tup (pa_cons (pe_ix ix_tup (pv 0) (pe_num (n := 0) rfl C.NUMBER) (fun _ _ => rfl)) (pa_cons (pe_num (n := 0) rfl C.TO_READ) (pa_cons (pe_ix ix_tup (pv 0) (pe_num (n := 2) rfl C.CELL) (fun _ _ => rfl)) (pa_cons pe_int (pa_cons pe_int (pa_cons pe_int (pa_cons (pe_ix ix_tup (pv 0) (pe_num (n := 6) rfl C.MARK) (fun _ _ => rfl)) pa_nil)))))))))), ?_⟩
    exact ⟨_, rfl, a, _, 0, _, rfl, rfl, SqT.of e, rfl, _, rfl, a, _, 2, _, rfl, rfl, SqT.of e, rfl, _, rfl, a, _, 6, _, rfl, rfl, SqT.of e, rfl, by show 7 ≤ sizeLine; decide, fun p np => fin p _ (same_upd np) upd_same⟩
/-! ### a hand's part written anew -/
def spWithHand : Sp := fun vs H Q _ => ∃ (a d : Addr) (S : PSt) (i : Nat) (x : PHand), vs = [.ref a, .int (i : Int), .ref d] ∧ StAt H a S ∧ NT H d x.list ∧ i < S.hands.length ∧ S.hands.length ≤ 1000 ∧ ∀ p H', Same H H' → StAt H' p (S.put i x) → Q (.ref p) H'
def spDone : Sp := fun vs H Q _ => ∃ (a : Addr) (S : PSt) (i : Nat) (x : PHand), vs = [.ref a, .int (i : Int)] ∧ StAt H a S ∧ S.hands[i]? = some x ∧ S.hands.length ≤ 1000 ∧ ∀ p H', Same H H' → StAt H' p (S.done i x) → Q (.ref p) H'
theorem scWithHand : FnScope ["state", "hand", "doing"] ["state", "hand", "doing"] (defScope s_with_hand) := ⟨rfl, rfl, rfl, by decide +kernel, rfl, by decide +kernel, by decide +kernel⟩
theorem cal_with_hand (T : TxS K mg) : C8.Cal P w K mg base 2 "with_hand" spWithHand [] := by
  obtain ⟨f, fd, F, g⟩ := T.with_hand.ex
  have C := T.c
  have c_replaced : C8.Cal P w K mg base 1 "replaced" spReplaced [] := cal_replaced T.replaced
  refine cal_of F g (F.bindsN fun _ _ _ _ _ _ us hl => match us, hl with | [_, _, _], _ => rfl) (fok F scWithHand (fun vs H Q E h => ?_) (fun cdv A outer s H vs Q E hr h => ?_))
  · obtain ⟨a, d, S, i, x, rfl, _⟩ := h
    rfl
  · obtain ⟨a, d, S, i, x, rfl, st, ed, hi, hl, fin⟩ := h
    refine ⟨_, (pss_one (ps_ret (C8.pe_c c_replaced hr (by decide) (by rfl) (pa_cons (pv 0) (pa_cons (pe_num (n := 5) rfl C.HANDS) (pa_cons (C8.pe_c c_replaced hr (by decide) (by rfl) (pa_cons (pe_ix ix_tup (pv 0) (pe_num (n := 5) rfl C.HANDS) (fun _ _ => rfl)) (pa_cons (pv 1) (pa_cons (pv 2) pa_nil)))) pa_nil)))))), ?_⟩
    obtain ⟨n, fr, v, hh, e0, en, ef, ev, as, eh, pr⟩ := st
    have ll := paired_len pr
    refine ⟨_, rfl, _, rfl, a, _, 5, _, rfl, rfl, SqT.of e0, rfl, _, rfl, _, rfl, hh, as.map V.ref, i, .ref d, rfl, eh, by rw [List.length_map]; omega, by rw [List.length_map]; omega, fun p1 H1 s1 e1 => ?_⟩
    refine ⟨a, _, 5, .ref p1, rfl, s1 _ _ e0, by show 5 < 6; decide, by show 6 ≤ 200000; decide, fun p2 H2 s2 e2 => fin p2 H2 (s1.trans s2) ?_⟩
    have s12 := s1.trans s2
    refine ⟨n, fr, v, p1, e2, s12 _ _ en, s12 _ _ ef, s12 _ _ ev, as.set i d, ?_, ?_⟩
    · rw [List.map_set]
      exact s2 _ _ e1
    · exact paired_set (R := fun t x => NT H2 t (PHand.list x)) (s12 _ _ ed) (Paired.mono2 (fun t x z => s12 _ _ z) pr)
theorem scDone : FnScope ["state", "hand", "number"] ["state", "hand"] (defScope s_with_deed_done) := ⟨rfl, rfl, rfl, by decide +kernel, rfl, by decide +kernel, by decide +kernel⟩
theorem cal_with_deed_done (T : TxS K mg) : C8.Cal P w K mg base 3 "with_deed_done" spDone [] := by
  obtain ⟨f, fd, F, g⟩ := T.with_deed_done.ex
  have C := T.c
  have c_with_hand : C8.Cal P w K mg base 2 "with_hand" spWithHand [] := cal_with_hand T
  have c_ahead_of : C8.Cal P w K mg base 1 "ahead_of" spAhead [] := cal_ahead T.ahead_of C
  refine cal_of F g (F.bindsN fun _ _ _ _ _ _ us hl => match us, hl with | [_, _], _ => rfl) (fok F scDone (fun vs H Q E h => ?_) (fun cdv A outer s H vs Q E hr h => ?_))
  · obtain ⟨a, S, i, x, rfl, _⟩ := h
    rfl
  · obtain ⟨a, S, i, x, rfl, st, hi, hl, fin⟩ := h
    refine ⟨_, (pss_cons
    (ps_set (i := 2) scDone.nd rfl (.inl rfl) (pe_ix ix_tup (pe_ix ix_tup (pe_ix ix_tup (pv 0) (pe_num (n := 5) rfl C.HANDS) (fun _ _ => rfl)) (pv 1) (fun _ _ => rfl)) (pe_num (n := 0) rfl C.NUMBER) (fun _ _ => rfl))) (pss_one
    (ps_ret (C8.pe_c c_with_hand hr (by decide) (by rfl) (pa_cons (pv 0) (pa_cons (pv 1) (pa_cons (C8.pe_c c_ahead_of hr (by decide) (by rfl) (pa_cons (pe_op op_add (pv 2) pe_int) pa_nil)) pa_nil))))))), ?_⟩
    obtain ⟨n, fr, v, hh, as, t, e0, en, ef, ev, eh, pr, et, ex⟩ := st.hand hi
    refine ⟨_, rfl, a, _, 5, _, rfl, rfl, SqT.of e0, rfl, _, rfl, hh, _, (i : Int), .ref t, rfl, rfl, SqT.of eh, at_ref et, t, _, 0, _, rfl, rfl, SqT.of ex, rfl, ?_⟩
    refine ⟨_, rfl, _, rfl, _, rfl, _, _, rfl, rfl, x.num + 1, rfl, fun p1 H1 s1 e1 => ?_⟩
    exact ⟨a, p1, S, i, .ahead (x.num + 1), rfl, st.same s1, e1, (List.getElem?_eq_some_iff.mp hi).1, hl, fun p2 H2 s2 e2 => fin p2 H2 (s1.trans s2) e2⟩
end
end Sk


namespace Sk
open PySem PySem.Spec PyProof.Rows L2
/-- a step of a kind: of hand i, x as it stands -/
def OutOf (vs : List V) (H : Hp) (Q : VK) (g : List V) (ok : PSt → Nat → PHand → Prop) (o : PSt → Nat → PHand → Stp × PSt) : Prop := ∃ (a : Addr) (S : PSt) (i : Nat) (x : PHand), vs = .ref a :: g ∧ StAt H a S ∧ S.hands[i]? = some x ∧ Few S ∧ ok S i x ∧ ∀ t H', Same H H' → OutAt H' t (o S i x) → Q (.ref t) H'
def spRead : Sp := fun vs H Q _ => ∃ (a : Addr) (S : PSt) (i : Nat) (x : PHand) (b : Bool), vs = [.ref a, .int (i : Int), .bl b] ∧ StAt H a S ∧ S.hands[i]? = some x ∧ Few S ∧ ∀ t H', Same H H' → OutAt H' t (readP S i x b) → Q (.ref t) H'
def spLink : Sp := fun vs H Q _ => ∃ (a : Addr) (S : PSt) (i : Nat) (x : PHand), vs = [.ref a, .int (i : Int)] ∧ StAt H a S ∧ S.hands[i]? = some x ∧ Few S ∧ 1 ≤ x.cell ∧ x.cell ≤ S.nexts.length ∧ ∀ t H', Same H H' → OutAt H' t (linkP S i x) → Q (.ref t) H'
def spMark : Sp := fun vs H Q _ => ∃ (a : Addr) (S : PSt) (i : Nat) (x : PHand), vs = [.ref a, .int (i : Int)] ∧ StAt H a S ∧ S.hands[i]? = some x ∧ Few S ∧ ∀ t H', Same H H' → OutAt H' t (markP S i x) → Q (.ref t) H'
def spFollow : Sp := fun vs H Q _ => ∃ (a : Addr) (S : PSt) (i : Nat) (x : PHand), vs = [.ref a, .int (i : Int)] ∧ StAt H a S ∧ S.hands[i]? = some x ∧ Few S ∧ 1 ≤ x.top ∧ x.top ≤ S.nexts.length ∧ ∀ t H', Same H H' → OutAt H' t (followP S i x) → Q (.ref t) H'
def spLetGo : Sp := fun vs H Q _ => ∃ (a : Addr) (S : PSt) (i : Nat) (x : PHand), vs = [.ref a, .int (i : Int)] ∧ StAt H a S ∧ S.hands[i]? = some x ∧ Few S ∧ 1 ≤ x.top ∧ x.top ≤ S.vals.length ∧ ∀ t H', Same H H' → OutAt H' t (letP S i x) → Q (.ref t) H'
section
variable {P : Program} {w : World} {K : PySem.W.Frag} {mg : Str → Option Value} {base : Heap}
theorem scRead : FnScope ["state", "hand", "pushes", "top", "doing"] ["state", "hand", "pushes"] (defScope s_read) := ⟨rfl, rfl, rfl, by decide +kernel, rfl, by decide +kernel, by decide +kernel⟩
theorem cal_read (T : TxS K mg) : C8.Cal P w K mg base 4 "read" spRead [] := by
  obtain ⟨f, fd, F, g⟩ := T.read.ex
  have C := T.c
  have c_with_hand : C8.Cal P w K mg base 2 "with_hand" spWithHand [] := cal_with_hand T
  have c_with_deed_done : C8.Cal P w K mg base 3 "with_deed_done" spDone [] := cal_with_deed_done T
  refine cal_of F g (F.bindsN fun _ _ _ _ _ _ us hl => match us, hl with | [_, _, _], _ => rfl) (fok F scRead (fun vs H Q E h => ?_) (fun cdv A outer s H vs Q E hr h => ?_))
  · obtain ⟨a, S, i, x, b, rfl, _⟩ := h
    rfl
  · obtain ⟨a, S, i, x, b, rfl, st, hi, fw, fin⟩ := h
    refine ⟨_, (pss_cons
    (ps_set (i := 3) scRead.nd rfl (.inl rfl) (pe_ix ix_tup (pv 0) (pe_num (n := 0) rfl C.TOP) (fun _ _ => rfl))) (Evl.pss_cut
    (ps_if (PW.pt (pw_and (pt_cmpR op_eq (pv 3) pe_int (nomark _)) (pw_and1 (pt_not (pt_val (pv 2)))))) (pss_one (ps_ret (pe_tup (pa_cons (pe_tup (pa_cons pe_str (pa_cons pe_non pa_nil))) (pa_cons (C8.pe_c c_with_deed_done hr (by decide) (by rfl) (pa_cons (pv 0) (pa_cons (pv 1) pa_nil))) pa_nil))))) pss_nil) (pss_cons
    (ps_set (i := 4) scRead.nd rfl (.inl rfl) (pe_ix ix_tup (pe_ix ix_tup (pv 0) (pe_num (n := 5) rfl C.HANDS) (fun _ _ => rfl)) (pv 1) (fun _ _ => rfl))) (pss_cons
    (ps_set (i := 4) scRead.nd rfl (.inl rfl) (pe_tup (pa_cons (pe_ix ix_tup (pv 4) (pe_num (n := 0) rfl C.NUMBER) (fun _ _ => rfl)) (pa_cons (pe_num (n := 1) rfl C.HAS_READ) (pa_cons (pe_ix ix_tup (pv 4) (pe_num (n := 2) rfl C.CELL) (fun _ _ => rfl)) (pa_cons (pv 3) (pa_cons (pe_ix ix_tup (pv 0) (pe_num (n := 1) rfl C.COUNT) (fun _ _ => rfl)) (pa_cons pe_int (pa_cons (pe_ix ix_tup (pv 4) (pe_num (n := 6) rfl C.MARK) (fun _ _ => rfl)) pa_nil))))))))) (pss_one
    (ps_ret (pe_tup (pa_cons (pe_tup (pa_cons pe_str (pa_cons (pv 3) pa_nil))) (pa_cons (C8.pe_c c_with_hand hr (by decide) (by rfl) (pa_cons (pv 0) (pa_cons (pv 1) (pa_cons (pv 4) pa_nil)))) pa_nil))))))))), ?_⟩
    obtain ⟨n, fr, v, hh, as, t, e0, en, ef, ev, eh, pr, et, ex⟩ := st.hand hi
    refine ⟨_, rfl, a, _, 0, _, rfl, rfl, SqT.of e0, rfl, ?_⟩
    refine ⟨fun σ' H' => σ' = [some (.ref a), some (.int (i : Int)), some (.bl b), some (.int (S.top : Int)), none] ∧ H' = H ∧ ¬ (S.top = 0 ∧ b = false), ?first, ?more⟩
    case first =>
      refine ⟨_, rfl, rfl, _, rfl, ?_⟩
      refine ifEqN 0 rfl (fun h0 => ?_) (fun h0 => ?_)
      · refine ⟨_, rfl, _, rfl, ?_⟩
        cases b with
        | false =>
          refine iteT ?_
          refine ⟨by show 2 ≤ sizeLine; decide, fun u nu => ?_⟩
          have s1 := same_upd (o := .tup [V.str "ends", .non]) nu
          refine ⟨_, rfl, _, rfl, a, S, i, x, rfl, st.same s1, hi, fw.h, fun p H2 s2 e2 => ⟨by show 2 ≤ sizeLine; decide, fun t nt => fin t _ ((s1.trans s2).trans (same_upd nt)) ?_⟩⟩
          unfold readP
          rw [if_pos ⟨h0, rfl⟩]
          exact out_mk nt (s2 _ _ upd_same) e2
        | true => exact iteF ⟨rfl, rfl, by rintro ⟨_, z⟩; cases z⟩
      · exact iteF ⟨rfl, rfl, fun z => h0 z.1⟩
    case more =>
      rintro σ' H' ⟨rfl, rfl, nq⟩
      refine ⟨_, rfl, a, _, 5, _, rfl, rfl, SqT.of e0, rfl, _, rfl, hh, _, (i : Int), .ref t, rfl, rfl, SqT.of eh, at_ref et, ?_⟩
      refine ⟨_, rfl, t, _, 0, _, rfl, rfl, SqT.of ex, rfl, _, rfl, t, _, 2, _, rfl, rfl, SqT.of ex, rfl, _, rfl, _, rfl, a, _, 1, _, rfl, rfl, SqT.of e0, rfl, _, rfl, t, _, 6, _, rfl, rfl, SqT.of ex, rfl, by show 7 ≤ sizeLine; decide, fun d nd => ?_⟩
      have s1 := same_upd (o := .tup (vN (PHand.list ⟨x.num, 1, x.cell, S.top, S.count, 0, x.mark⟩))) nd
      refine ⟨_, rfl, by show 2 ≤ sizeLine; decide, fun u nu => ?_⟩
      have s2 := same_upd (o := .tup [V.str "reads", .int (S.top : Int)]) nu
      have s12 := s1.trans s2
      refine ⟨_, rfl, _, rfl, _, rfl, a, d, S, i, ⟨x.num, 1, x.cell, S.top, S.count, 0, x.mark⟩, rfl, st.same s12, s2 _ _ upd_same, (List.getElem?_eq_some_iff.mp hi).1, fw.h, fun p H2 s3 e3 => ⟨by show 2 ≤ sizeLine; decide, fun t nt => fin t _ ((s12.trans s3).trans (same_upd nt)) ?_⟩⟩
      unfold readP
      rw [if_neg nq]
      exact out_mk nt (s3 _ _ upd_same) e3
theorem scLink : FnScope ["state", "hand", "doing", "top"] ["state", "hand"] (defScope s_link) := ⟨rfl, rfl, rfl, by decide +kernel, rfl, by decide +kernel, by decide +kernel⟩
theorem cal_link (T : TxS K mg) : C8.Cal P w K mg base 3 "link" spLink [] := by
  obtain ⟨f, fd, F, g⟩ := T.link.ex
  have C := T.c
  have c_with_hand : C8.Cal P w K mg base 2 "with_hand" spWithHand [] := cal_with_hand T
  have c_replaced : C8.Cal P w K mg base 1 "replaced" spReplaced [] := cal_replaced T.replaced
  refine cal_of F g (F.bindsN fun _ _ _ _ _ _ us hl => match us, hl with | [_, _], _ => rfl) (fok F scLink (fun vs H Q E h => ?_) (fun cdv A outer s H vs Q E hr h => ?_))
  · obtain ⟨a, S, i, x, rfl, _⟩ := h
    rfl
  · obtain ⟨a, S, i, x, rfl, st, hi, fw, c1, c2, fin⟩ := h
    refine ⟨_, (pss_cons
    (ps_set (i := 2) scLink.nd rfl (.inl rfl) (pe_ix ix_tup (pe_ix ix_tup (pv 0) (pe_num (n := 5) rfl C.HANDS) (fun _ _ => rfl)) (pv 1) (fun _ _ => rfl))) (pss_cons
    (ps_set (i := 3) scLink.nd rfl (.inl rfl) (pe_ix ix_tup (pv 2) (pe_num (n := 3) rfl C.TOP_READ) (fun _ _ => rfl))) (pss_cons
    (ps_set (i := 0) scLink.nd rfl (.inl rfl) (C8.pe_c c_replaced hr (by decide) (by rfl) (pa_cons (pv 0) (pa_cons (pe_num (n := 2) rfl C.NEXTS) (pa_cons (C8.pe_c c_replaced hr (by decide) (by rfl) (pa_cons (pe_ix ix_tup (pv 0) (pe_num (n := 2) rfl C.NEXTS) (fun _ _ => rfl)) (pa_cons (pe_op op_sub (pe_ix ix_tup (pv 2) (pe_num (n := 2) rfl C.CELL) (fun _ _ => rfl)) pe_int) (pa_cons (pv 3) pa_nil)))) pa_nil))))) (pss_one
    (ps_ret (pe_tup (pa_cons (pe_tup (pa_cons pe_str (pa_cons (pv 3) pa_nil))) (pa_cons (C8.pe_c c_with_hand hr (by decide) (by rfl) (pa_cons (pv 0) (pa_cons (pv 1) (pa_cons (C8.pe_c c_replaced hr (by decide) (by rfl) (pa_cons (pv 2) (pa_cons (pe_num (n := 1) rfl C.PHASE) (pa_cons (pe_num (n := 3) rfl C.TO_EXCHANGE) pa_nil)))) pa_nil)))) pa_nil)))))))), ?_⟩
    obtain ⟨n, fr, v, hh, as, t, e0, en, ef, ev, eh, pr, et, ex⟩ := st.hand hi
    refine ⟨_, rfl, a, _, 5, _, rfl, rfl, SqT.of e0, rfl, _, rfl, hh, _, (i : Int), .ref t, rfl, rfl, SqT.of eh, at_ref et, _, rfl, t, _, 3, _, rfl, rfl, SqT.of ex, rfl, ?_⟩
    refine ⟨_, rfl, _, rfl, a, _, 2, _, rfl, rfl, SqT.of e0, rfl, _, rfl, t, _, 2, _, rfl, rfl, SqT.of ex, rfl, _, _, rfl, rfl, _, rfl, n, vN S.nexts, x.cell - 1, .int (x.top : Int), ?_, en, by rw [List.length_map]; omega, by rw [List.length_map]; have := fw.n; omega, fun p1 H1 s1 e1 => ?_⟩
    · show [V.ref n, V.int ((x.cell : Int) - 1), _] = _
      rw [pred_nat c1]
    refine ⟨a, _, 2, .ref p1, rfl, s1 _ _ e0, by show 2 < 6; decide, by show 6 ≤ 200000; decide, fun p2 H2 s2 e2 => ?_⟩
    have s12 := s1.trans s2
    have e2 : H2 p2 = some (.tup [.int (S.top : Int), .int (S.count : Int), .ref p1, .ref fr, .ref v, .ref hh]) := e2
    have st2 : StAt H2 p2 { S with nexts := S.nexts.set (x.cell - 1) x.top } := ⟨p1, fr, v, hh, e2, by have := s2 _ _ e1; rw [vN_set] at this; exact this, s12 _ _ ef, s12 _ _ ev, as, s12 _ _ eh, Paired.mono2 (fun t x z => s12 _ _ z) pr⟩
    refine ⟨_, rfl, by show 2 ≤ sizeLine; decide, fun u nu => ?_⟩
    have s3 := same_upd (o := .tup [V.str "links", .int (x.top : Int)]) nu
    refine ⟨_, rfl, _, rfl, _, rfl, t, _, 1, .int 3, rfl, s3 _ _ (s12 _ _ ex), by show 1 < 7; decide, by show 7 ≤ 200000; decide, fun p4 H4 s4 e4 => ?_⟩
    refine ⟨p2, p4, _, i, { x with phase := 3 }, rfl, (st2.same s3).same s4, e4, (List.getElem?_eq_some_iff.mp hi).1, fw.h, fun p5 H5 s5 e5 => ⟨by show 2 ≤ sizeLine; decide, fun t5 nt => fin t5 _ ((((s12.trans s3).trans s4).trans s5).trans (same_upd nt)) ?_⟩⟩
    exact out_mk nt (s5 _ _ (s4 _ _ upd_same)) e5
theorem scFollow : FnScope ["state", "hand", "doing", "below"] ["state", "hand"] (defScope s_follow) := ⟨rfl, rfl, rfl, by decide +kernel, rfl, by decide +kernel, by decide +kernel⟩
theorem cal_follow (T : TxS K mg) : C8.Cal P w K mg base 3 "follow" spFollow [] := by
  obtain ⟨f, fd, F, g⟩ := T.follow.ex
  have C := T.c
  have c_with_hand : C8.Cal P w K mg base 2 "with_hand" spWithHand [] := cal_with_hand T
  have c_replaced : C8.Cal P w K mg base 1 "replaced" spReplaced [] := cal_replaced T.replaced
  refine cal_of F g (F.bindsN fun _ _ _ _ _ _ us hl => match us, hl with | [_, _], _ => rfl) (fok F scFollow (fun vs H Q E h => ?_) (fun cdv A outer s H vs Q E hr h => ?_))
  · obtain ⟨a, S, i, x, rfl, _⟩ := h
    rfl
  · obtain ⟨a, S, i, x, rfl, st, hi, fw, c1, c2, fin⟩ := h
    refine ⟨_, (pss_cons
    (ps_set (i := 2) scFollow.nd rfl (.inl rfl) (pe_ix ix_tup (pe_ix ix_tup (pv 0) (pe_num (n := 5) rfl C.HANDS) (fun _ _ => rfl)) (pv 1) (fun _ _ => rfl))) (pss_cons
    (ps_set (i := 3) scFollow.nd rfl (.inl rfl) (pe_ix ix_tup (pe_ix ix_tup (pv 0) (pe_num (n := 2) rfl C.NEXTS) (fun _ _ => rfl)) (pe_op op_sub (pe_ix ix_tup (pv 2) (pe_num (n := 3) rfl C.TOP_READ) (fun _ _ => rfl)) pe_int) (fun _ _ => rfl))) (pss_cons
    (ps_set (i := 2) scFollow.nd rfl (.inl rfl) (C8.pe_c c_replaced hr (by decide) (by rfl) (pa_cons (C8.pe_c c_replaced hr (by decide) (by rfl) (pa_cons (pv 2) (pa_cons (pe_num (n := 1) rfl C.PHASE) (pa_cons (pe_num (n := 3) rfl C.TO_EXCHANGE) pa_nil)))) (pa_cons (pe_num (n := 5) rfl C.FOLLOWED) (pa_cons (pv 3) pa_nil))))) (pss_one
    (ps_ret (pe_tup (pa_cons (pe_tup (pa_cons pe_str (pa_cons (pv 3) pa_nil))) (pa_cons (C8.pe_c c_with_hand hr (by decide) (by rfl) (pa_cons (pv 0) (pa_cons (pv 1) (pa_cons (pv 2) pa_nil)))) pa_nil)))))))), ?_⟩
    obtain ⟨n, fr, v, hh, as, t, e0, en, ef, ev, eh, pr, et, ex⟩ := st.hand hi
    refine ⟨_, rfl, a, _, 5, _, rfl, rfl, SqT.of e0, rfl, _, rfl, hh, _, (i : Int), .ref t, rfl, rfl, SqT.of eh, at_ref et, ?_⟩
    refine ⟨_, rfl, a, _, 2, _, rfl, rfl, SqT.of e0, rfl, _, rfl, t, _, 3, _, rfl, rfl, SqT.of ex, rfl, _, _, rfl, rfl, n, _, (x.top : Int) - 1, _, rfl, rfl, SqT.of en, at_link c1 c2, ?_⟩
    refine ⟨_, rfl, t, _, 1, .int 3, rfl, ex, by show 1 < 7; decide, by show 7 ≤ 200000; decide, fun p1 H1 s1 e1 => ?_⟩
    refine ⟨_, rfl, p1, _, 5, .int (linkAt S.nexts x.top : Int), rfl, e1, by show 5 < 7; decide, by show 7 ≤ 200000; decide, fun p2 H2 s2 e2 => ?_⟩
    have s12 := s1.trans s2
    refine ⟨_, rfl, by show 2 ≤ sizeLine; decide, fun u nu => ?_⟩
    have s3 := same_upd (o := .tup [V.str "follows", .int (linkAt S.nexts x.top : Int)]) nu
    refine ⟨_, rfl, _, rfl, _, rfl, a, p2, S, i, { x with phase := 3, fol := linkAt S.nexts x.top }, rfl, (st.same s12).same s3, s3 _ _ e2, (List.getElem?_eq_some_iff.mp hi).1, fw.h, fun p5 H5 s5 e5 => ⟨by show 2 ≤ sizeLine; decide, fun t5 nt => fin t5 _ (((s12.trans s3).trans s5).trans (same_upd nt)) ?_⟩⟩
    exact out_mk nt (s5 _ _ upd_same) e5
theorem scMark : FnScope ["state", "hand", "doing", "cell"] ["state", "hand"] (defScope s_mark_or_look) := ⟨rfl, rfl, rfl, by decide +kernel, rfl, by decide +kernel, by decide +kernel⟩
theorem cal_mark_or_look (T : TxS K mg) : C8.Cal P w K mg base 3 "mark_or_look" spMark [] := by
  obtain ⟨f, fd, F, g⟩ := T.mark_or_look.ex
  have C := T.c
  have c_with_hand : C8.Cal P w K mg base 2 "with_hand" spWithHand [] := cal_with_hand T
  have c_replaced : C8.Cal P w K mg base 1 "replaced" spReplaced [] := cal_replaced T.replaced
  have c_to_read_anew : C8.Cal P w K mg base 1 "to_read_anew" spAnew [] := cal_anew T.to_read_anew C
  refine cal_of F g (F.bindsN fun _ _ _ _ _ _ us hl => match us, hl with | [_, _], _ => rfl) (fok F scMark (fun vs H Q E h => ?_) (fun cdv A outer s H vs Q E hr h => ?_))
  · obtain ⟨a, S, i, x, rfl, _⟩ := h
    rfl
  · obtain ⟨a, S, i, x, rfl, st, hi, fw, fin⟩ := h
    refine ⟨_, (pss_cons
    (ps_set (i := 2) scMark.nd rfl (.inl rfl) (pe_ix ix_tup (pe_ix ix_tup (pv 0) (pe_num (n := 5) rfl C.HANDS) (fun _ _ => rfl)) (pv 1) (fun _ _ => rfl))) (pss_cons
    (ps_set (i := 3) scMark.nd rfl (.inl rfl) (pe_ix ix_tup (pv 2) (pe_num (n := 3) rfl C.TOP_READ) (fun _ _ => rfl))) (Evl.pss_cut
    (ps_if (pt_cmpR op_ne (pe_ix ix_tup (pv 2) (pe_num (n := 6) rfl C.MARK) (fun _ _ => rfl)) (pv 3) (nomark _)) (pss_one (ps_ret (pe_tup (pa_cons (pe_tup (pa_cons pe_str (pa_cons (pv 3) pa_nil))) (pa_cons (C8.pe_c c_with_hand hr (by decide) (by rfl) (pa_cons (pv 0) (pa_cons (pv 1) (pa_cons (C8.pe_c c_replaced hr (by decide) (by rfl) (pa_cons (pv 2) (pa_cons (pe_num (n := 6) rfl C.MARK) (pa_cons (pv 3) pa_nil)))) pa_nil)))) pa_nil))))) pss_nil) (pss_cons
    (ps_if (pt_cmpR op_ne (pe_ix ix_tup (pv 0) (pe_num (n := 0) rfl C.TOP) (fun _ _ => rfl)) (pv 3) (nomark _)) (pss_one (ps_ret (pe_tup (pa_cons (pe_tup (pa_cons pe_str (pa_cons pe_bl pa_nil))) (pa_cons (C8.pe_c c_with_hand hr (by decide) (by rfl) (pa_cons (pv 0) (pa_cons (pv 1) (pa_cons (C8.pe_c c_to_read_anew hr (by decide) (by rfl) (pa_cons (pv 2) pa_nil)) pa_nil)))) pa_nil))))) pss_nil) (pss_one
    (ps_ret (pe_tup (pa_cons (pe_tup (pa_cons pe_str (pa_cons pe_bl pa_nil))) (pa_cons (C8.pe_c c_with_hand hr (by decide) (by rfl) (pa_cons (pv 0) (pa_cons (pv 1) (pa_cons (C8.pe_c c_replaced hr (by decide) (by rfl) (pa_cons (pv 2) (pa_cons (pe_num (n := 1) rfl C.PHASE) (pa_cons (pe_num (n := 2) rfl C.HAS_LOOKED) pa_nil)))) pa_nil)))) pa_nil))))))))), ?_⟩
    obtain ⟨n, fr, v, hh, as, t, e0, en, ef, ev, eh, pr, et, ex⟩ := st.hand hi
    have il := (List.getElem?_eq_some_iff.mp hi).1
    refine ⟨_, rfl, a, _, 5, _, rfl, rfl, SqT.of e0, rfl, _, rfl, hh, _, (i : Int), .ref t, rfl, rfl, SqT.of eh, at_ref et, _, rfl, t, _, 3, _, rfl, rfl, SqT.of ex, rfl, ?_⟩
    refine ⟨fun σ' H' => σ' = [some (.ref a), some (.int (i : Int)), some (.ref t), some (.int (x.top : Int))] ∧ H' = H ∧ x.mark = x.top, ?first, ?more⟩
    case first =>
      refine ⟨_, rfl, t, _, 6, _, rfl, rfl, SqT.of ex, rfl, _, rfl, rfl, _, rfl, ifNeN x.top rfl (fun h0 => ?_) (fun h0 => ⟨rfl, rfl, h0⟩)⟩
      refine ⟨_, rfl, by show 2 ≤ sizeLine; decide, fun u nu => ?_⟩
      have s1 := same_upd (o := .tup [V.str "marks", .int (x.top : Int)]) nu
      refine ⟨_, rfl, _, rfl, _, rfl, _, rfl, t, _, 6, .int (x.top : Int), rfl, s1 _ _ ex, by show 6 < 7; decide, by show 7 ≤ 200000; decide, fun p2 H2 s2 e2 => ?_⟩
      refine ⟨a, p2, S, i, { x with mark := x.top }, rfl, (st.same s1).same s2, e2, il, fw.h, fun p5 H5 s5 e5 => ⟨by show 2 ≤ sizeLine; decide, fun t5 nt => fin t5 _ (((s1.trans s2).trans s5).trans (same_upd nt)) ?_⟩⟩
      unfold markP
      rw [if_pos h0]
      exact out_mk nt (s5 _ _ (s2 _ _ upd_same)) e5
    case more =>
      rintro σ' H' ⟨rfl, rfl, hm⟩
      refine ⟨_, rfl, a, _, 0, _, rfl, rfl, SqT.of e0, rfl, _, rfl, rfl, _, rfl, ifNeN x.top rfl (fun h0 => ?_) (fun h0 => ?_)⟩
      · refine ⟨by show 2 ≤ sizeLine; decide, fun u nu => ?_⟩
        have s1 := same_upd (o := .tup [V.str "looks", .bl false]) nu
        refine ⟨_, rfl, _, rfl, _, rfl, t, x, rfl, s1 _ _ ex, fun p2 H2 s2 e2 => ?_⟩
        refine ⟨a, p2, S, i, x.anew, rfl, (st.same s1).same s2, e2, il, fw.h, fun p5 H5 s5 e5 => ⟨by show 2 ≤ sizeLine; decide, fun t5 nt => fin t5 _ (((s1.trans s2).trans s5).trans (same_upd nt)) ?_⟩⟩
        unfold markP
        rw [if_neg (fun z => z hm), if_pos h0]
        exact out_mk nt (s5 _ _ (s2 _ _ upd_same)) e5
      · refine ⟨by show 2 ≤ sizeLine; decide, fun u nu => ?_⟩
        have s1 := same_upd (o := .tup [V.str "looks", .bl true]) nu
        refine ⟨_, rfl, _, rfl, _, rfl, t, _, 1, .int 2, rfl, s1 _ _ ex, by show 1 < 7; decide, by show 7 ≤ 200000; decide, fun p2 H2 s2 e2 => ?_⟩
        refine ⟨a, p2, S, i, { x with phase := 2 }, rfl, (st.same s1).same s2, e2, il, fw.h, fun p5 H5 s5 e5 => ⟨by show 2 ≤ sizeLine; decide, fun t5 nt => fin t5 _ (((s1.trans s2).trans s5).trans (same_upd nt)) ?_⟩⟩
        unfold markP
        rw [if_neg (fun z => z hm), if_neg (fun z => z h0)]
        exact out_mk nt (s5 _ _ (s2 _ _ upd_same)) e5
theorem scLetGo : FnScope ["state", "hand", "cell", "value"] ["state", "hand"] (defScope s_let_go) := ⟨rfl, rfl, rfl, by decide +kernel, rfl, by decide +kernel, by decide +kernel⟩
theorem cal_let_go (T : TxS K mg) : C8.Cal P w K mg base 4 "let_go" spLetGo [] := by
  obtain ⟨f, fd, F, g⟩ := T.let_go.ex
  have C := T.c
  have c_with_deed_done : C8.Cal P w K mg base 3 "with_deed_done" spDone [] := cal_with_deed_done T
  have c_replaced : C8.Cal P w K mg base 1 "replaced" spReplaced [] := cal_replaced T.replaced
  refine cal_of F g (F.bindsN fun _ _ _ _ _ _ us hl => match us, hl with | [_, _], _ => rfl) (fok F scLetGo (fun vs H Q E h => ?_) (fun cdv A outer s H vs Q E hr h => ?_))
  · obtain ⟨a, S, i, x, rfl, _⟩ := h
    rfl
  · obtain ⟨a, S, i, x, rfl, st, hi, fw, c1, c2, fin⟩ := h
    refine ⟨_, (pss_cons
    (ps_set (i := 2) scLetGo.nd rfl (.inl rfl) (pe_ix ix_tup (pe_ix ix_tup (pe_ix ix_tup (pv 0) (pe_num (n := 5) rfl C.HANDS) (fun _ _ => rfl)) (pv 1) (fun _ _ => rfl)) (pe_num (n := 3) rfl C.TOP_READ) (fun _ _ => rfl))) (pss_cons
    (ps_set (i := 3) scLetGo.nd rfl (.inl rfl) (pe_ix ix_tup (pe_ix ix_tup (pv 0) (pe_num (n := 4) rfl C.VALUES) (fun _ _ => rfl)) (pe_op op_sub (pv 2) pe_int) (fun _ _ => rfl))) (pss_cons
    (ps_set (i := 0) scLetGo.nd rfl (.inl rfl) (C8.pe_c c_replaced hr (by decide) (by rfl) (pa_cons (pv 0) (pa_cons (pe_num (n := 3) rfl C.FREE) (pa_cons (pe_op op_catA (pe_ix ix_tup (pv 0) (pe_num (n := 3) rfl C.FREE) (fun _ _ => rfl)) (pe_tup (pa_cons (pv 2) pa_nil))) pa_nil))))) (pss_one
    (ps_ret (pe_tup (pa_cons (pe_tup (pa_cons pe_str (pa_cons (pv 3) pa_nil))) (pa_cons (C8.pe_c c_with_deed_done hr (by decide) (by rfl) (pa_cons (pv 0) (pa_cons (pv 1) pa_nil))) pa_nil)))))))), ?_⟩
    obtain ⟨n, fr, v, hh, as, t, e0, en, ef, ev, eh, pr, et, ex⟩ := st.hand hi
    refine ⟨_, rfl, a, _, 5, _, rfl, rfl, SqT.of e0, rfl, _, rfl, hh, _, (i : Int), .ref t, rfl, rfl, SqT.of eh, at_ref et, t, _, 3, _, rfl, rfl, SqT.of ex, rfl, ?_⟩
    refine ⟨_, rfl, a, _, 4, _, rfl, rfl, SqT.of e0, rfl, _, rfl, _, _, rfl, rfl, v, _, (x.top : Int) - 1, _, rfl, rfl, SqT.of ev, at_val c1 c2, ?_⟩
    refine ⟨_, rfl, _, rfl, a, _, 3, _, rfl, rfl, SqT.of e0, rfl, _, rfl, by show 1 ≤ sizeLine; decide, fun p0 n0 => ?_⟩
    have s0 := same_upd (o := .tup (vN [x.top])) n0
    refine cat_tup (s0 _ _ ef) upd_same (by rw [List.length_map, sizeLine_eq]; have := fw.f; show S.free.length + 1 ≤ _; omega) fun p1 H1 s1 e1 => ?_
    have s01 := s0.trans s1
    refine ⟨a, _, 3, .ref p1, rfl, s01 _ _ e0, by show 3 < 6; decide, by show 6 ≤ 200000; decide, fun p2 H2 s2 e2 => ?_⟩
    have s02 := s01.trans s2
    have e2 : H2 p2 = some (.tup [.int (S.top : Int), .int (S.count : Int), .ref n, .ref p1, .ref v, .ref hh]) := e2
    have st2 : StAt H2 p2 { S with free := S.free ++ [x.top] } := ⟨n, p1, v, hh, e2, s02 _ _ en, by have := s2 _ _ e1; show H2 p1 = some (.tup (vN (S.free ++ [x.top]))); unfold vN; rw [List.map_append]; exact this, s02 _ _ ev, as, s02 _ _ eh, Paired.mono2 (fun t x z => s02 _ _ z) pr⟩
    refine ⟨_, rfl, by show 2 ≤ sizeLine; decide, fun u nu => ?_⟩
    have s3 := same_upd (o := .tup [V.str "ends", .int (valAt S.vals x.top)]) nu
    refine ⟨_, rfl, _, rfl, p2, _, i, x, rfl, st2.same s3, hi, fw.h, fun p5 H5 s5 e5 => ⟨by show 2 ≤ sizeLine; decide, fun t5 nt => fin t5 _ (((s02.trans s3).trans s5).trans (same_upd nt)) ?_⟩⟩
    exact out_mk nt (s5 _ _ upd_same) e5
end
end Sk


namespace Sk
open PySem PySem.Spec PyProof.Rows L2
/-- counts are from one on -/
def Rule.pos (r : Rule) : Prop := ∀ m, r = .counts m → 1 ≤ m
def spWithTop : Sp := fun vs H Q _ => ∃ (a rl : Addr) (S : PSt) (r : Rule) (c : Nat), vs = [.ref a, .ref rl, .int (c : Int)] ∧ StAt H a S ∧ RuleAt H rl r ∧ r.pos ∧ ∀ p H', Same H H' → StAt H' p (S.wtop r c) → Q (.ref p) H'
def spExchange : Sp := fun vs H Q _ => ∃ (a rl : Addr) (S : PSt) (r : Rule) (i : Nat) (x : PHand) (b : Bool), vs = [.ref a, .ref rl, .int (i : Int), .bl b] ∧ StAt H a S ∧ RuleAt H rl r ∧ r.pos ∧ S.hands[i]? = some x ∧ Few S ∧ ∀ t H', Same H H' → OutAt H' t (exchP r S i x b) → Q (.ref t) H'
def placeV : Option Nat → V
  | none => .non
  | some j => .int (j : Int)
def spPlace : Sp := fun vs H Q _ => ∃ (a rl : Addr) (S : PSt) (r : Rule), vs = [.ref a, .ref rl] ∧ StAt H a S ∧ RuleAt H rl r ∧ Few S ∧ ∀ H', Same H H' → Q (placeV (placeP r S)) H'
def spTake : Sp := fun vs H Q _ => ∃ (a rl : Addr) (S : PSt) (r : Rule) (i : Nat) (x : PHand) (v : Int), vs = [.ref a, .ref rl, .int (i : Int), .int v] ∧ StAt H a S ∧ RuleAt H rl r ∧ S.hands[i]? = some x ∧ Few S ∧ S.nexts.length = S.vals.length ∧ (∀ c ∈ S.free, 1 ≤ c ∧ c ≤ S.vals.length) ∧ ∀ t H', Same H H' → OutAt H' t (takeP r S i x v) → Q (.ref t) H'
def spFirstState (K : PySem.W.Frag) : Sp := fun vs H Q _ => ∃ (a : Addr) (xs : List Int) (n : Nat), vs = [.ref a, .int (n : Int)] ∧ SqL K H a (xs.map V.int) ∧ xs.length ≤ 1000 ∧ 1 ≤ n ∧ n ≤ 1000 ∧ ∀ p H', Same H H' → StAt H' p (PSt.begun xs n) → Q (.ref p) H'
section
variable {P : Program} {w : World} {K : PySem.W.Frag} {mg : Str → Option Value} {base : Heap}
theorem scWithTop : FnScope ["state", "rule", "top", "count"] ["state", "rule", "top"] (defScope s_with_top) := ⟨rfl, rfl, rfl, by decide +kernel, rfl, by decide +kernel, by decide +kernel⟩
theorem cal_with_top (T : TxS K mg) : C8.Cal P w K mg base 1 "with_top" spWithTop [] := by
  obtain ⟨f, fd, F, g⟩ := T.with_top.ex
  have C := T.c
  refine cal_of F g (F.bindsN fun _ _ _ _ _ _ us hl => match us, hl with | [_, _, _], _ => rfl) (fok F scWithTop (fun vs H Q E h => ?_) (fun cdv A outer s H vs Q E hr h => ?_))
  · obtain ⟨a, rl, S, r, c, rfl, _⟩ := h
    rfl
  · obtain ⟨a, rl, S, r, c, rfl, st, ru, rp, fin⟩ := h
    refine ⟨_, (pss_cons
    (ps_set (i := 3) scWithTop.nd rfl (.inl rfl) (pe_ix ix_tup (pv 0) (pe_num (n := 1) rfl C.COUNT) (fun _ _ => rfl))) (Evl.pss_cut
    (ps_if (pt_cmpR op_eq (pe_ix ix_tup (pv 1) pe_int (fun _ _ => rfl)) pe_str (nomark _)) (pss_one (ps_set (i := 3) scWithTop.nd rfl (.inl rfl) (pe_op op_mod (pe_op op_add (pv 3) pe_int) (pe_ix ix_tup (pv 1) pe_int (fun _ _ => rfl))))) pss_nil) (pss_one
    (ps_ret (pe_op op_catA (pe_tup (pa_cons (pv 2) (pa_cons (pv 3) pa_nil))) (pe_slice sl_tupA (pv 0) (po_some (pe_num (n := 2) rfl C.NEXTS)) po_none)))))), ?_⟩
    obtain ⟨n, fr, v, hh, e0, en, ef, ev, eh⟩ := id st
    obtain ⟨rest, eT⟩ := ru.word
    refine ⟨_, rfl, a, _, 1, _, rfl, rfl, SqT.of e0, rfl, ?_⟩
    refine ⟨fun σ' H' => σ' = [some (.ref a), some (.ref rl), some (.int (c : Int)), some (.int (bump r S.count : Int))] ∧ H' = H, ?first, ?more⟩
    case first =>
      refine ⟨_, rfl, rl, _, 0, .str r.word, rfl, rfl, SqT.of eT, atI_nat (j := 0) rfl, rfl, _, rfl, ifCounts (fun m hm => ?_) (fun hm => ⟨?_, rfl⟩)⟩
      · subst hm
        have m1 := rp m rfl
        refine ⟨_, rfl, _, _, rfl, rfl, _, rfl, rl, _, 1, .int (m : Int), rfl, rfl, SqT.of ru, rfl, _, _, rfl, rfl, by omega, rfl, rfl⟩
      · have e : bump r S.count = S.count := by
          cases r with
          | counts m => exact absurd rfl (hm m)
          | marks hs => rfl
          | keeps => rfl
        rw [e]
        rfl
    case more =>
      rintro σ' H' ⟨rfl, rfl⟩
      refine ⟨_, rfl, _, rfl, by show 2 ≤ sizeLine; decide, fun u nu => ?_⟩
      have s1 := same_upd (o := .tup [V.int (c : Int), .int (bump r S.count : Int)]) nu
      refine ⟨_, rfl, 2, rfl, ?_⟩
      dsimp only [tNoPart]
      refine sl_drop (k := 2) (s1 _ _ e0) (by show 2 ≤ 6; decide) fun b2 H2 s2 e2 => ?_
      refine cat_tup (s2 _ _ upd_same) e2 (by show 2 + 4 ≤ sizeLine; decide) fun b3 H3 s3 e3 => fin b3 H3 ((s1.trans s2).trans s3) ?_
      have s13 := (s1.trans s2).trans s3
      exact ⟨n, fr, v, hh, e3, s13 _ _ en, s13 _ _ ef, s13 _ _ ev, eh.tups (.of s13)⟩
theorem scExchange : FnScope ["state", "rule", "hand", "pushes", "doing", "below"] ["state", "rule", "hand", "pushes"] (defScope s_exchange) := ⟨rfl, rfl, rfl, by decide +kernel, rfl, by decide +kernel, by decide +kernel⟩
theorem cal_exchange (T : TxS K mg) : C8.Cal P w K mg base 4 "exchange" spExchange [] := by
  obtain ⟨f, fd, F, g⟩ := T.exchange.ex
  have C := T.c
  have c_with_hand : C8.Cal P w K mg base 2 "with_hand" spWithHand [] := cal_with_hand T
  have c_with_deed_done : C8.Cal P w K mg base 3 "with_deed_done" spDone [] := cal_with_deed_done T
  have c_with_top : C8.Cal P w K mg base 1 "with_top" spWithTop [] := cal_with_top T
  have c_to_read_anew : C8.Cal P w K mg base 1 "to_read_anew" spAnew [] := cal_anew T.to_read_anew C
  refine cal_of F g (F.bindsN fun _ _ _ _ _ _ us hl => match us, hl with | [_, _, _, _], _ => rfl) (fok F scExchange (fun vs H Q E h => ?_) (fun cdv A outer s H vs Q E hr h => ?_))
  · obtain ⟨a, rl, S, r, i, x, b, rfl, _⟩ := h
    rfl
  · obtain ⟨a, rl, S, r, i, x, b, rfl, st, ru, rp, hi, fw, fin⟩ := h
    refine ⟨_, (pss_cons
    (ps_set (i := 4) scExchange.nd rfl (.inl rfl) (pe_ix ix_tup (pe_ix ix_tup (pv 0) (pe_num (n := 5) rfl C.HANDS) (fun _ _ => rfl)) (pv 2) (fun _ _ => rfl))) (Evl.pss_cut
    (ps_if (PW.pt (pw_or (pt_cmpR op_ne (pe_ix ix_tup (pv 0) (pe_num (n := 0) rfl C.TOP) (fun _ _ => rfl)) (pe_ix ix_tup (pv 4) (pe_num (n := 3) rfl C.TOP_READ) (fun _ _ => rfl)) (nomark _)) (pw_or1 (pt_cmpR op_ne (pe_ix ix_tup (pv 0) (pe_num (n := 1) rfl C.COUNT) (fun _ _ => rfl)) (pe_ix ix_tup (pv 4) (pe_num (n := 4) rfl C.COUNT_READ) (fun _ _ => rfl)) (nomark _))))) (pss_one (ps_ret (pe_tup (pa_cons (pe_tup (pa_cons pe_str pa_nil)) (pa_cons (C8.pe_c c_with_hand hr (by decide) (by rfl) (pa_cons (pv 0) (pa_cons (pv 2) (pa_cons (C8.pe_c c_to_read_anew hr (by decide) (by rfl) (pa_cons (pv 4) pa_nil)) pa_nil)))) pa_nil))))) pss_nil) (Evl.pss_cut
    (ps_if (pt_val (pv 3)) (pss_one (ps_ret (pe_tup (pa_cons (pe_tup (pa_cons pe_str (pa_cons pe_str pa_nil))) (pa_cons (C8.pe_c c_with_deed_done hr (by decide) (by rfl) (pa_cons (C8.pe_c c_with_top hr (by decide) (by rfl) (pa_cons (pv 0) (pa_cons (pv 1) (pa_cons (pe_ix ix_tup (pv 4) (pe_num (n := 2) rfl C.CELL) (fun _ _ => rfl)) pa_nil)))) (pa_cons (pv 2) pa_nil))) pa_nil))))) pss_nil) (pss_cons
    (ps_set (i := 5) scExchange.nd rfl (.inl rfl) (pe_ix ix_tup (pv 4) (pe_num (n := 5) rfl C.FOLLOWED) (fun _ _ => rfl))) (pss_cons
    (ps_set (i := 4) scExchange.nd rfl (.inl rfl) (pe_tup (pa_cons (pe_ix ix_tup (pv 4) (pe_num (n := 0) rfl C.NUMBER) (fun _ _ => rfl)) (pa_cons (pe_num (n := 4) rfl C.HAS_EXCHANGED) (pa_cons pe_int (pa_cons (pe_ix ix_tup (pv 4) (pe_num (n := 3) rfl C.TOP_READ) (fun _ _ => rfl)) (pa_cons pe_int (pa_cons pe_int (pa_cons (pe_ix ix_tup (pv 4) (pe_num (n := 6) rfl C.MARK) (fun _ _ => rfl)) pa_nil))))))))) (pss_one
    (ps_ret (pe_tup (pa_cons (pe_tup (pa_cons pe_str (pa_cons (pv 5) pa_nil))) (pa_cons (C8.pe_c c_with_hand hr (by decide) (by rfl) (pa_cons (C8.pe_c c_with_top hr (by decide) (by rfl) (pa_cons (pv 0) (pa_cons (pv 1) (pa_cons (pv 5) pa_nil)))) (pa_cons (pv 2) (pa_cons (pv 4) pa_nil)))) pa_nil)))))))))), ?_⟩
    obtain ⟨n, fr, v, hh, as, t, e0, en, ef, ev, eh, pr, et, ex⟩ := st.hand hi
    have il := (List.getElem?_eq_some_iff.mp hi).1
    refine ⟨_, rfl, a, _, 5, _, rfl, rfl, SqT.of e0, rfl, _, rfl, hh, _, (i : Int), .ref t, rfl, rfl, SqT.of eh, at_ref et, ?_⟩
    refine ⟨fun σ' H' => σ' = [some (.ref a), some (.ref rl), some (.int (i : Int)), some (.bl b), some (.ref t), none] ∧ H' = H ∧ ¬ (S.top ≠ x.top ∨ S.count ≠ x.count), ?first, ?more⟩
    case first =>
      have miss : (S.top ≠ x.top ∨ S.count ≠ x.count) → ∀ u, H u = none → ∀ p2 H2, Same (upd H u (.tup [V.str "misses"])) H2 → NT H2 p2 x.anew.list → spWithHand [.ref a, .int (i : Int), .ref p2] H2 (fun y H5 => (2 ≤ sizeLine) ∧ ∀ t5, H5 t5 = none → Q (.ref t5) (upd H5 t5 (.tup [.ref u, y]))) (fun _ _ _ => False) := fun hm u nu p2 H2 s2 e2 => by
        have s1 := same_upd (o := .tup [V.str "misses"]) nu
        refine ⟨a, p2, S, i, x.anew, rfl, (st.same s1).same s2, e2, il, fw.h, fun p5 H5 s5 e5 => ⟨by decide, fun t5 nt => fin t5 _ (((s1.trans s2).trans s5).trans (same_upd nt)) ?_⟩⟩
        unfold exchP
        rw [if_pos hm]
        exact out_mk nt (s5 _ _ (s2 _ _ upd_same)) e5
      refine ⟨_, rfl, a, _, 0, _, rfl, rfl, SqT.of e0, rfl, _, rfl, t, _, 3, _, rfl, rfl, SqT.of ex, rfl, rfl, _, rfl, ifNeN x.top rfl (fun h0 => iteT ?_) (fun h0 => ?_)⟩
      · exact ⟨by show 1 ≤ sizeLine; decide, fun u nu => ⟨_, rfl, _, rfl, _, rfl, t, x, rfl, same_upd nu _ _ ex, fun p2 H2 s2 e2 => miss (.inl h0) u nu p2 H2 s2 e2⟩⟩
      · refine ⟨_, rfl, a, _, 1, _, rfl, rfl, SqT.of e0, rfl, _, rfl, t, _, 4, _, rfl, rfl, SqT.of ex, rfl, rfl, _, rfl, ifNeN x.count rfl (fun h1 => ?_) (fun h1 => ?_)⟩
        · exact ⟨by show 1 ≤ sizeLine; decide, fun u nu => ⟨_, rfl, _, rfl, _, rfl, t, x, rfl, same_upd nu _ _ ex, fun p2 H2 s2 e2 => miss (.inr h1) u nu p2 H2 s2 e2⟩⟩
        · exact ⟨rfl, rfl, by rintro (z | z); exact z h0; exact z h1⟩
    case more =>
      rintro σ' H' ⟨rfl, rfl, hm⟩
      refine ⟨fun σ' H1 => σ' = [some (.ref a), some (.ref rl), some (.int (i : Int)), some (.bl b), some (.ref t), none] ∧ H1 = H' ∧ b = false, ?first, ?more⟩
      case first =>
        refine ⟨_, rfl, _, rfl, ?_⟩
        cases b with
        | false => exact iteF ⟨rfl, rfl, rfl⟩
        | true =>
          refine iteT ⟨by show 2 ≤ sizeLine; decide, fun u nu => ?_⟩
          have s1 := same_upd (o := .tup [V.str "ends", doneV]) nu
          have ex1 := s1 _ _ ex
          refine ⟨_, rfl, _, rfl, _, rfl, t, _, 2, _, rfl, rfl, SqT.of ex1, rfl, a, rl, S, r, x.cell, rfl, st.same s1, ru.same s1, rp, fun p2 H2 s2 e2 => ?_⟩
          refine ⟨_, rfl, p2, _, i, x, rfl, e2, hi, fw.h, fun p5 H5 s5 e5 => ⟨by show 2 ≤ sizeLine; decide, fun t5 nt => fin t5 _ (((s1.trans s2).trans s5).trans (same_upd nt)) ?_⟩⟩
          unfold exchP
          rw [if_neg hm, if_pos rfl]
          exact out_mk nt (s5 _ _ (s2 _ _ upd_same)) e5
      case more =>
        rintro σ' H1 ⟨rfl, rfl, rfl⟩
        refine ⟨_, rfl, t, _, 5, _, rfl, rfl, SqT.of ex, rfl, _, rfl, t, _, 0, _, rfl, rfl, SqT.of ex, rfl, _, rfl, t, _, 3, _, rfl, rfl, SqT.of ex, rfl, _, rfl, t, _, 6, _, rfl, rfl, SqT.of ex, rfl, by show 7 ≤ sizeLine; decide, fun d nd => ?_⟩
        have s1 := same_upd (o := .tup (vN (PHand.list ⟨x.num, 4, 0, x.top, 0, 0, x.mark⟩))) nd
        refine ⟨_, rfl, by show 2 ≤ sizeLine; decide, fun u nu => ?_⟩
        have s2 := same_upd (o := .tup [V.str "exchanges", .int (x.fol : Int)]) nu
        have s12 := s1.trans s2
        refine ⟨_, rfl, _, rfl, _, rfl, a, rl, S, r, x.fol, rfl, st.same s12, ru.same s12, rp, fun p3 H3 s3 e3 => ?_⟩
        refine ⟨_, rfl, _, rfl, p3, d, _, i, ⟨x.num, 4, 0, x.top, 0, 0, x.mark⟩, rfl, e3, s3 _ _ (s2 _ _ upd_same), il, fw.h, fun p5 H5 s5 e5 => ⟨by show 2 ≤ sizeLine; decide, fun t5 nt => fin t5 _ (((s12.trans s3).trans s5).trans (same_upd nt)) ?_⟩⟩
        unfold exchP
        rw [if_neg hm, if_neg (by decide)]
        exact out_mk nt (s5 _ _ (s3 _ _ upd_same)) e5
end
end Sk


namespace Sk
open PySem PySem.Spec PyProof.Rows L2
section
variable {P : Program} {w : World} {K : PySem.W.Frag} {mg : Str → Option Value} {base : Heap}
theorem scPlace : FnScope ["state", "rule", "marks", "place", "cell", "doing"] ["state", "rule"] (defScope s_place_to_take) := ⟨rfl, rfl, rfl, by decide +kernel, rfl, by decide +kernel, by decide +kernel⟩
theorem cal_place_to_take (T : TxS K mg) : C8.Cal P w K mg base 1 "place_to_take" spPlace [] := by
  obtain ⟨f, fd, F, g⟩ := T.place_to_take.ex
  have C := T.c
  have T := T.toB
  refine cal_of F g (F.bindsN fun _ _ _ _ _ _ us hl => match us, hl with | [_, _], _ => rfl) (fok F scPlace (fun vs H Q E h => ?_) (fun cdv A outer s H vs Q E hr h => ?_))
  · obtain ⟨a, rl, S, r, rfl, _⟩ := h
    rfl
  · obtain ⟨a, rl, S, r, rfl, st, ru, fw, fin⟩ := h
    refine ⟨_, (Evl.pss_cut
    (ps_if (pt_cmpR op_eq (pe_ix ix_tup (pv 1) pe_int (fun _ _ => rfl)) pe_str (nomark _)) (pss_one (ps_ret pe_non)) pss_nil) (pss_cons
    (ps_setLc (i := 2) (own := [("doing", 5)]) (g := gName 5) (tt := tYes) rfl scPlace.nd rfl rfl (sw_true rfl rfl rfl (by decide +kernel)) (pi_tup (pe_ix ix_tup (pv 0) (pe_num (n := 5) rfl C.HANDS) (fun _ _ => rfl))) (blkOk_by (N := (["state", "rule", "marks", "place", "cell", "doing"])) (sc := defScope s_place_to_take) (by decide +kernel)) (fun _ _ _ _ _ => pg_name (i := 5) scPlace.nd rfl (Or.inl rfl)) (fun _ _ _ _ _ => pts_nil) (fun _ _ _ _ _ => (pe_ix (r := rIxT K) ix_tup (pv 5) (pe_num (n := 6) rfl C.MARK) (fun _ _ => rfl)))) (pss_cons
    (ps_for PassesOwn.never rfl (pi_enumT (by rfl) T.enumerate (pa_cons (pe_ix ix_tup (pv 0) (pe_num (n := 3) rfl C.FREE) (fun _ _ => rfl)) pa_nil)) (pg_tup (by rfl) (pgs_cons (pg_name (i := 3) scPlace.nd rfl (.inl rfl)) (pgs_cons (pg_name (i := 4) scPlace.nd rfl (.inl rfl)) pgs_nil))) (pss_one (ps_if (pt_cmpR op_notIn_seq (pv 4) (pv 2) (by rfl)) (pss_one (ps_ret (pv 3))) pss_nil))) (pss_one
    (ps_ret pe_non))))), ?_⟩
    obtain ⟨n, fr, v, hh, e0, en, ef, ev, as, eh, pr⟩ := id st
    obtain ⟨rest, eT⟩ := ru.word
    have ll := paired_len pr
    refine ⟨fun σ' H' => σ' = [some (.ref a), some (.ref rl), none, none, none, none] ∧ H' = H ∧ r ≠ .keeps, ?first, ?more⟩
    case first =>
      refine ⟨_, rfl, rl, _, 0, .str r.word, rfl, rfl, SqT.of eT, atI_nat (j := 0) rfl, rfl, _, rfl, ifKeeps (fun hk => ?_) (fun hk => ⟨rfl, rfl, hk⟩)⟩
      subst hk
      exact fin H (.refl H)
    case more =>
      rintro σ' H' ⟨rfl, rfl, hk⟩
      refine ⟨_, rfl, a, _, 5, _, rfl, rfl, SqT.of e0, rfl, hh, rfl, ⟨_, SqT.of eh⟩, fun D nD => ?_⟩
      refine lc_it (walk_tup (xs := as.map V.ref)) (fun i H1 => Same H' H1 ∧ H1 D = some (.lst (vN ((S.hands.map PHand.mark).take i)))) ⟨same_upd nD, upd_same⟩ (fun i H1 _ z => SqT.of (z.1 _ _ eh)) ?turn ?rest
      case turn =>
        rintro i x H1 H2 hi ⟨s1, eD⟩ ⟨rfl, ex⟩
        rw [List.length_map] at hi
        have ex2 : x = .ref as[i] := by
          rw [List.getElem?_map, List.getElem?_eq_getElem hi] at ex
          exact (Option.some.inj ex).symm
        subst ex2
        have hS : i < S.hands.length := by omega
        obtain ⟨t, et, ext⟩ := paired_get pr (List.getElem?_eq_getElem hS)
        rw [List.getElem?_eq_getElem hi] at et
        have et := Option.some.inj et
        subst et
        have ex1 := s1 _ _ ext
        refine ⟨rfl, tyes ⟨_, rfl, as[i], _, 6, _, rfl, rfl, SqT.of ex1, rfl, _, eD, ?_, ?_, ?_⟩⟩
        · rw [List.length_map, List.length_take, List.length_map, sizeLine_eq]
          have := fw.h
          omega
        · intro c o e
          rw [upd_ne (ne_of_none e nD)]
          exact s1 _ _ e
        · rw [upd_same, List.take_add_one, List.getElem?_map, List.getElem?_eq_getElem hS]
          unfold vN
          rw [List.map_append]
          rfl
      case rest =>
        rintro H1 ⟨s1, eD⟩
        have full : (S.hands.map PHand.mark).take (as.map V.ref).length = S.hands.map PHand.mark := List.take_of_length_le (by rw [List.length_map, List.length_map, ll]; exact Nat.le_refl _)
        rw [full] at eD
        have e1 := s1 _ _ e0
        refine ⟨_, rfl, a, _, 3, _, rfl, rfl, SqT.of e1, rfl, fr, _, rfl, SqT.of (s1 _ _ ef), for_it (walk_enumT (xs := vN S.free)) (fun i σ H2 => Same H1 H2 ∧ (∃ u v : Option V, σ = [some (.ref a), some (.ref rl), some (.ref D), u, v, none]) ∧ ∀ j, j < i → ∀ c, S.free[j]? = some c → (S.hands.map PHand.mark).contains c = true) ⟨.refl H1, ⟨none, none, rfl⟩, fun j hj => absurd hj (Nat.not_lt_zero _)⟩ (fun i σ H2 _ z => SqT.of (z.1 _ _ (s1 _ _ ef))) ?_ ?_⟩
        · rintro i x σ H2 H3 hi ⟨s2, ⟨u, v, rfl⟩, before⟩ ⟨t, x1, x2, rfl, nt, rfl, ex1, ex2⟩
          have ex1 : V.int (i : Nat) = x1 := Option.some.inj ex1
          subst ex1
          rw [List.length_map] at hi
          have ex3 : x2 = V.int (S.free[i] : Nat) := by
            have z : (vN S.free)[i]? = some x2 := ex2
            unfold vN at z
            rw [List.getElem?_map, List.getElem?_eq_getElem hi] at z
            exact (Option.some.inj z).symm
          subst ex3
          have s3 : Same H1 (upd H2 t (.tup [.int (i : Nat), .int (S.free[i] : Nat)])) := s2.trans (same_upd nt)
          refine ⟨t, _, rfl, SqT.of upd_same, rfl, _, _, rfl, _, _, rfl, rfl, ?_⟩
          refine ⟨_, rfl, _, rfl, D, _, rfl, .inl (SqL.of (s3 _ _ eD)), rfl, flat_nat _, _, rfl, ifNotIn (fun hc => ?_) (fun hc => ?_)⟩
          · have q := fin _ (s1.trans s3)
            rw [place_some hk hi hc before] at q
            exact ⟨_, rfl, q⟩
          · refine ⟨s3, ⟨_, _, rfl⟩, fun j hj c ec => ?_⟩
            by_cases q : j = i
            · subst q
              rw [List.getElem?_eq_getElem hi] at ec
              rw [← Option.some.inj ec]
              exact hc
            · exact before j (by omega) c ec
        · rintro σ H2 ⟨s2, ⟨u, v, rfl⟩, before⟩
          rw [List.length_map] at before
          have q := fin _ (s1.trans s2)
          rw [place_none before] at q
          exact q
end
end Sk


namespace Sk
open PySem PySem.Spec PyProof.Rows L2
section
variable {P : Program} {w : World} {K : PySem.W.Frag} {mg : Str → Option Value} {base : Heap}
theorem scTake : FnScope ["state", "rule", "hand", "value", "top", "count", "nexts", "free", "values", "hands", "place", "cell", "doing"] ["state", "rule", "hand", "value"] (defScope s_take) := ⟨rfl, rfl, rfl, by decide +kernel, rfl, by decide +kernel, by decide +kernel⟩
theorem cal_take (T : TxS K mg) : C8.Cal P w K mg base 2 "take" spTake [] := by
  obtain ⟨f, fd, F, g⟩ := T.take.ex
  have C := T.c
  have c_place_to_take : C8.Cal P w K mg base 1 "place_to_take" spPlace [] := cal_place_to_take T
  have c_replaced : C8.Cal P w K mg base 1 "replaced" spReplaced [] := cal_replaced T.replaced
  refine cal_of F g (F.bindsN fun _ _ _ _ _ _ us hl => match us, hl with | [_, _, _, _], _ => rfl) (fok F scTake (fun vs H Q E h => ?_) (fun cdv A outer s H vs Q E hr h => ?_))
  · obtain ⟨a, rl, S, r, i, x, v, rfl, _⟩ := h
    rfl
  · obtain ⟨a, rl, S, r, i, x, v, rfl, st, ru, hi, fw, ln, fb, fin⟩ := h
    refine ⟨_, (pss_cons
    (ps_asg (pv 0) (pg_tup (by rfl) (pgs_cons (pg_name (i := 4) scTake.nd rfl (.inl rfl)) (pgs_cons (pg_name (i := 5) scTake.nd rfl (.inl rfl)) (pgs_cons (pg_name (i := 6) scTake.nd rfl (.inl rfl)) (pgs_cons (pg_name (i := 7) scTake.nd rfl (.inl rfl)) (pgs_cons (pg_name (i := 8) scTake.nd rfl (.inl rfl)) (pgs_cons (pg_name (i := 9) scTake.nd rfl (.inl rfl)) pgs_nil)))))))) (pss_cons
    (ps_set (i := 10) scTake.nd rfl (.inl rfl) (C8.pe_c c_place_to_take hr (by decide) (by rfl) (pa_cons (pv 0) (pa_cons (pv 1) pa_nil)))) (Evl.pss_cut
    (ps_if (pt_cmpR op_isN (pv 10) pe_non (nomark _)) (pss_cons
    (ps_set (i := 6) scTake.nd rfl (.inl rfl) (pe_op op_catA (pv 6) (pe_tup (pa_cons pe_int pa_nil)))) (pss_cons
    (ps_set (i := 8) scTake.nd rfl (.inl rfl) (pe_op op_catA (pv 8) (pe_tup (pa_cons (pv 3) pa_nil)))) (pss_one
    (ps_set (i := 11) scTake.nd rfl (.inl rfl) (pe_callB call_len_seq (by rfl) T.len PySem.boot_len (pa_cons (pv 6) pa_nil)))))) (pss_cons
    (ps_set (i := 11) scTake.nd rfl (.inl rfl) (pe_ix ix_tup (pv 7) (pv 10) (fun _ _ => rfl))) (pss_cons
    (ps_set (i := 7) scTake.nd rfl (.inl rfl) (pe_op op_catA (pe_slice sl_tupA (pv 7) po_none (po_some (pv 10))) (pe_slice sl_tupA (pv 7) (po_some (pe_op op_add (pv 10) pe_int)) po_none))) (pss_one
    (ps_set (i := 8) scTake.nd rfl (.inl rfl) (C8.pe_c c_replaced hr (by decide) (by rfl) (pa_cons (pv 8) (pa_cons (pe_op op_sub (pv 11) pe_int) (pa_cons (pv 3) pa_nil))))))))) (pss_cons
    (ps_set (i := 12) scTake.nd rfl (.inl rfl) (C8.pe_c c_replaced hr (by decide) (by rfl) (pa_cons (pe_ix ix_tup (pv 9) (pv 2) (fun _ _ => rfl)) (pa_cons (pe_num (n := 2) rfl C.CELL) (pa_cons (pv 11) pa_nil))))) (pss_one
    (ps_ret (pe_tup (pa_cons (pe_tup (pa_cons pe_str (pa_cons (pv 11) pa_nil))) (pa_cons (pe_tup (pa_cons (pv 4) (pa_cons (pv 5) (pa_cons (pv 6) (pa_cons (pv 7) (pa_cons (pv 8) (pa_cons (C8.pe_c c_replaced hr (by decide) (by rfl) (pa_cons (pv 9) (pa_cons (pv 2) (pa_cons (pv 12) pa_nil)))) pa_nil))))))) pa_nil))))))))), ?_⟩
    obtain ⟨n, fr, vl, hh, as, t, e0, en, ef, ev, eh, pr, et, ex⟩ := st.hand hi
    have il := (List.getElem?_eq_some_iff.mp hi).1
    have ll := paired_len pr
    refine ⟨_, rfl, a, _, rfl, SqT.of e0, rfl, _, _, rfl, _, _, rfl, _, _, rfl, _, _, rfl, _, _, rfl, _, _, rfl, rfl, ?_⟩
    refine ⟨_, rfl, _, rfl, a, rl, S, r, rfl, st, ru, fw, fun H1 s1 => ?_⟩
    refine ⟨fun σ' H2 => ∃ (n2 f2 v2 : Addr) (ns fs : List Nat) (vs : List Int) (c : Nat) (pl : V), σ' = [some (.ref a), some (.ref rl), some (.int (i : Int)), some (.int v), some (.int (S.top : Int)), some (.int (S.count : Int)), some (.ref n2), some (.ref f2), some (.ref v2), some (.ref hh), some pl, some (.int (c : Int)), none] ∧
      Same H H2 ∧ NT H2 n2 ns ∧ NT H2 f2 fs ∧ H2 v2 = some (.tup (vs.map V.int)) ∧ takeP r S i x v = (.takes c, { S with nexts := ns, free := fs, vals := vs, hands := S.hands.set i { x with cell := c } }), ?first, ?more⟩
    case first =>
      refine ⟨_, rfl, rfl, _, rfl, ?_⟩
      cases hp : placeP r S with
      | none =>
        refine iteT ⟨_, rfl, by show 1 ≤ sizeLine; decide, fun p0 n0 => ?_⟩
        have s2 := s1.trans (same_upd (o := .tup [V.int 0]) n0)
        refine cat_tup (s2 _ _ en) upd_same (by rw [List.length_map, sizeLine_eq]; have := fw.n; show S.nexts.length + 1 ≤ _; omega) fun p1 H2 s3 e3 => ?_
        have s23 := s2.trans s3
        refine ⟨_, rfl, _, rfl, by show 1 ≤ sizeLine; decide, fun q0 m0 => ?_⟩
        have s4 := s23.trans (same_upd (o := .tup [V.int v]) m0)
        refine cat_tup (s4 _ _ ev) upd_same (by rw [List.length_map, sizeLine_eq]; have := fw.v; show S.vals.length + 1 ≤ _; omega) fun q1 H3 s5 e5 => ?_
        have s45 := s4.trans s5
        have e3' := s5 _ _ (same_upd (o := .tup [V.int v]) m0 _ _ e3)
        have ex3 : vN S.nexts ++ [V.int 0] = vN (S.nexts ++ [0]) := by unfold vN; rw [List.map_append]; rfl
        rw [ex3] at e3'
        refine ⟨_, rfl, p1, _, rfl, .inr (SqT.of e3'), ?_⟩
        refine ⟨p1, fr, q1, S.nexts ++ [0], S.free, S.vals ++ [v], S.nexts.length + 1, .non, ?_, s45, e3', s45 _ _ ef, ?_, ?_⟩
        · rw [List.length_map, List.length_append]
          rfl
        · rw [e5, List.map_append]
          rfl
        · unfold takeP
          rw [hp]
      | some j =>
        have jl : j < S.free.length := by
          have q : (S.free.findIdx? fun c => !((S.hands.map PHand.mark).contains c)) = some j := by
            cases r with
            | keeps => cases hp
            | counts m => exact hp
            | marks hs => exact hp
          exact (List.findIdx?_eq_some_iff_getElem.mp q).1
        have cm : S.free[j] ∈ S.free := List.getElem_mem jl
        obtain ⟨c1, c2⟩ := fb _ cm
        refine iteF ⟨_, rfl, _, rfl, fr, _, (j : Int), .int (S.free[j] : Nat), rfl, rfl, SqT.of (s1 _ _ ef), atI_nat (by unfold vN; rw [List.getElem?_map, List.getElem?_eq_getElem jl]; rfl), ?_⟩
        refine ⟨_, rfl, _, rfl, (j : Int), rfl, sl_take (s1 _ _ ef) (by rw [List.length_map]; omega) fun b1 H2 s2 e2 => ⟨_, rfl, _, rfl, _, _, rfl, rfl, ((j + 1 : Nat) : Int), rfl, ?_⟩⟩
        have s12 := s1.trans s2
        dsimp only [tNoPart]
        refine sl_drop (k := j + 1) (s12 _ _ ef) (by rw [List.length_map]; omega) fun b2 H3 s3 e3 => ?_
        refine cat_tup (s3 _ _ e2) e3 (by rw [sizeLine_eq, List.length_take, List.length_drop, List.length_map]; have := fw.f; omega) fun b3 H4 s4 e4 => ?_
        have s14 := (s12.trans s3).trans s4
        refine ⟨_, rfl, _, rfl, _, _, rfl, rfl, _, rfl, vl, S.vals.map V.int, S.free[j] - 1, .int v, ?_, s14 _ _ ev, by rw [List.length_map]; omega, by rw [List.length_map]; have := fw.v; omega, fun p5 H5 s5 e5 => ?_⟩
        · show [V.ref vl, V.int ((S.free[j] : Int) - 1), _] = _
          rw [pred_nat c1]
        refine ⟨n, b3, p5, S.nexts, S.free.eraseIdx j, S.vals.set (S.free[j] - 1) v, S.free[j], .int (j : Int), rfl, s14.trans s5, (s14.trans s5) _ _ en, ?_, ?_, ?_⟩
        · show H5 b3 = _
          rw [s5 _ _ e4, List.eraseIdx_eq_take_drop_succ]
          unfold vN
          rw [List.map_append, List.map_take, List.map_drop]
        · rw [e5, List.map_set]
        · unfold takeP
          rw [hp]
          have gd : S.free.getD j 0 = S.free[j] := by simp [List.getD, List.getElem?_eq_getElem jl]
          dsimp only
          rw [gd]
    case more =>
      rintro σ' H2 ⟨n2, f2, v2, ns, fs, vs, c, pl, rfl, s2, en2, ef2, ev2, et2⟩
      have eh2 := s2 _ _ eh
      refine ⟨_, rfl, _, rfl, hh, _, (i : Int), .ref t, rfl, rfl, SqT.of eh2, at_ref et, _, rfl, t, _, 2, .int (c : Int), rfl, s2 _ _ ex, by show 2 < 7; decide, by show 7 ≤ 200000; decide, fun d H3 s3 e3 => ?_⟩
      have s23 := s2.trans s3
      refine ⟨_, rfl, by show 2 ≤ sizeLine; decide, fun u nu => ?_⟩
      have s4 := same_upd (o := .tup [V.str "takes", .int (c : Int)]) nu
      have s24 := s23.trans s4
      refine ⟨_, rfl, _, rfl, _, rfl, _, rfl, _, rfl, _, rfl, _, rfl, _, rfl, hh, as.map V.ref, i, .ref d, rfl, s24 _ _ eh, by rw [List.length_map]; omega, by rw [List.length_map]; have := fw.h; omega, fun p5 H5 s5 e5 => ⟨by show 6 ≤ sizeLine; decide, fun b nb => ⟨by show 2 ≤ sizeLine; decide, fun t5 nt => fin t5 _ (((s24.trans s5).trans (same_upd nb)).trans (same_upd nt)) ?_⟩⟩⟩
      rw [et2]
      have s25 := s24.trans s5
      have sb := same_upd (o := .tup [.int (S.top : Int), .int (S.count : Int), .ref n2, .ref f2, .ref v2, .ref p5]) nb
      have s35 := (s3.trans s4).trans s5
      refine out_mk nt (sb _ _ (s5 _ _ upd_same)) ⟨n2, f2, v2, p5, upd_same, sb _ _ (s35 _ _ en2), sb _ _ (s35 _ _ ef2), sb _ _ (s35 _ _ ev2), as.set i d, ?_, ?_⟩
      · rw [List.map_set]
        exact sb _ _ e5
      · exact paired_set (R := fun t x => NT _ t (PHand.list x)) (sb _ _ (s5 _ _ (s4 _ _ e3))) (Paired.mono2 (fun t x z => sb _ _ (s25 _ _ z)) pr)
end
end Sk


namespace Sk
open PySem PySem.Spec PyProof.Rows L2
theorem flat_rep (p : Addr) (n : Nat) : (List.replicate n [V.ref p]).flatten = (List.replicate n p).map V.ref := by
  induction n with
  | zero => rfl
  | succ n ih => rw [List.replicate_succ, List.replicate_succ, List.flatten_cons, ih]; rfl
theorem paired_rep {α β : Type} {R : α → β → Prop} {a : α} {b : β} (r : R a b) : ∀ n : Nat, Paired R (List.replicate n a) (List.replicate n b)
  | 0 => .nil
  | n + 1 => .cons r (paired_rep r n)
section
variable {P : Program} {w : World} {K : PySem.W.Frag} {mg : Str → Option Value} {base : Heap}
theorem scFirstState : FnScope ["values", "many", "size"] ["values", "many"] (defScope s_first_state) := ⟨rfl, rfl, rfl, by decide +kernel, rfl, by decide +kernel, by decide +kernel⟩
theorem cal_first_state (T : TxS K mg) : C8.Cal P w K mg base 2 "first_state" (spFirstState K) [] := by
  obtain ⟨f, fd, F, g⟩ := T.first_state.ex
  have C := T.c
  have c_ahead_of : C8.Cal P w K mg base 1 "ahead_of" spAhead [] := cal_ahead T.ahead_of C
  refine cal_of F g (F.bindsN fun _ _ _ _ _ _ us hl => match us, hl with | [_, _], _ => rfl) (fok F scFirstState (fun vs H Q E h => ?_) (fun cdv A outer s H vs Q E hr h => ?_))
  · obtain ⟨a, xs, n, rfl, _⟩ := h
    rfl
  · obtain ⟨a, xs, n, rfl, hS, xl, n1, n2, fin⟩ := h
    refine ⟨_, (pss_cons
    (ps_set (i := 2) scFirstState.nd rfl (.inl rfl) (pe_callB call_len_seq (by rfl) T.len PySem.boot_len (pa_cons (pv 0) pa_nil))) (pss_one
    (ps_ret (pe_tup (pa_cons (pv 2) (pa_cons pe_int (pa_cons (pe_tupRg rfl (by rfl) T.tuple (prg_1 (by rfl) T.range (pv 2))) (pa_cons (pe_tup pa_nil) (pa_cons (pe_callTy call_tuple_of (by rfl) T.tuple (by decide +kernel) (pa_cons (pv 0) pa_nil)) (pa_cons (pe_op op_repA (pe_tup (pa_cons (C8.pe_c c_ahead_of hr (by decide) (by rfl) (pa_cons pe_int pa_nil)) pa_nil)) (pv 1)) pa_nil)))))))))), ?_⟩
    refine ⟨_, rfl, a, _, rfl, .inl hS, _, rfl, ?_⟩
    have el : rgV 0 (((xs.map V.int).length : Nat) : Int) = vN (List.range xs.length) := by
      unfold rgV vN
      rw [List.length_map, Int.sub_zero, Int.toNat_natCast]
      exact List.map_congr_left fun i _ => by rw [Int.zero_add]
    refine ⟨_, rfl, _, rfl, RgOk.of_le (by decide) (by rw [List.length_map]; omega) (by decide) (by omega), fun q1 m1 => ?_⟩
    rw [el]
    have s1 := same_upd (o := .tup (vN (List.range xs.length))) m1
    refine ⟨Nat.zero_le _, fun q2 m2 => ?_⟩
    have s2 := same_upd (o := .tup ([] : List V)) m2
    refine ⟨_, rfl, a, _, rfl, .inl ⟨(s1.trans s2).seq hS, fun q3 m3 => ?_⟩⟩
    have s3 := same_upd (o := .tup (xs.map V.int)) m3
    refine ⟨0, rfl, fun p4 H4 s4 e4 => ⟨by show 1 ≤ sizeLine; decide, fun p5 m5 => ?_⟩⟩
    have s5 := same_upd (o := .tup [V.ref p4]) m5
    have s15 := (((s1.trans s2).trans s3).trans s4).trans s5
    have k1 : NT _ q1 _ := s5 _ _ (s4 _ _ (s3 _ _ (s2 _ _ (upd_same (H := H) (a := q1) (o := .tup (vN (List.range xs.length)))))))
    have k2 := s5 _ _ (s4 _ _ (s3 _ _ (upd_same (H := upd H q1 (.tup (vN (List.range xs.length)))) (a := q2) (o := .tup ([] : List V)))))
    have k3 := s5 _ _ (s4 _ _ (upd_same (H := upd (upd H q1 (.tup (vN (List.range xs.length)))) q2 (.tup ([] : List V))) (a := q3) (o := .tup (xs.map V.int))))
    have k4 := s5 _ _ e4
    have k5 : (upd H4 p5 (.tup [V.ref p4])) p5 = _ := upd_same
    generalize upd H4 p5 (.tup [V.ref p4]) = H5 at *
    have len : ((xs.map V.int).length : Int) = (xs.length : Int) := by rw [List.length_map]
    refine ⟨_, rfl, p5, (n : Int), [.ref p4], rfl, rfl, SqT.of k5, by simp, by omega, by omega, (by show 1 ≤ 1000; decide), fun h1 => ?_, fun h2 p6 m6 => ?_⟩
    · refine ⟨by show 6 ≤ sizeLine; decide, fun p np => fin p _ (s15.trans (same_upd np)) ?_⟩
      have sp := same_upd (o := .tup [.int (((xs.map V.int).length : Nat) : Int), .int 0, .ref q1, .ref q2, .ref q3, .ref p5]) np
      refine ⟨q1, q2, q3, p5, ?_, sp _ _ k1, sp _ _ k2, sp _ _ k3, [p4], sp _ _ k5, ?_⟩
      · rw [upd_same, len]
        rfl
      · have n1 : n = 1 := by omega
        subst n1
        exact .cons (sp _ _ k4) .nil
    · have s6 := same_upd (o := .tup (List.replicate (n : Int).toNat [V.ref p4]).flatten) m6
      refine ⟨by show 6 ≤ sizeLine; decide, fun p np => fin p _ ((s15.trans s6).trans (same_upd np)) ?_⟩
      have sp := same_upd (o := .tup [.int (((xs.map V.int).length : Nat) : Int), .int 0, .ref q1, .ref q2, .ref q3, .ref p6]) np
      refine ⟨q1, q2, q3, p6, ?_, sp _ _ (s6 _ _ k1), sp _ _ (s6 _ _ k2), sp _ _ (s6 _ _ k3), List.replicate n p4, ?_, ?_⟩
      · rw [upd_same, len]
        rfl
      · rw [sp _ _ upd_same, Int.toNat_natCast, flat_rep]
      · exact paired_rep (R := fun t x => NT _ t (PHand.list x)) (sp _ _ (s6 _ _ k4)) n
end
end Sk


namespace Sk
open PySem PySem.Spec PyProof.Rows L2
/-- a sequence, a list or a tuple -/
def SqA (K : PySem.W.Frag) (H : Hp) (a : Addr) (xs : List V) : Prop := SqL K H a xs ∨ SqT K H a xs
/-- a hand's deeds .. -/
def DsAt (K : PySem.W.Frag) (H : Hp) (l : Addr) (ds : List Deed) : Prop := ∃ ts : List Addr, SqA K H l (ts.map V.ref) ∧ Rows K H ts (ds.map Deed.row)
/-- .. and all hands' -/
def PgAt (K : PySem.W.Frag) (H : Hp) (p : Addr) (ps : List (List Deed)) : Prop := ∃ ls : List Addr, SqA K H p (ls.map V.ref) ∧ Paired (DsAt K H) ls ps
theorem SqA.same {K : PySem.W.Frag} {H H' : Hp} {a : Addr} {xs : List V} (h : SqA K H a xs) (s : Same H H') : SqA K H' a xs := h.elim (fun z => .inl (s.seq z)) (fun z => .inr (same_tup s z))
theorem DsAt.same {K : PySem.W.Frag} {H H' : Hp} {l : Addr} {ds : List Deed} (h : DsAt K H l ds) (s : Same H H') : DsAt K H' l ds := by
  obtain ⟨ts, h1, h2⟩ := h
  exact ⟨ts, h1.same s, h2.mono fun t xs z => same_tup s z⟩
theorem PgAt.same {K : PySem.W.Frag} {H H' : Hp} {p : Addr} {ps : List (List Deed)} (h : PgAt K H p ps) (s : Same H H') : PgAt K H' p ps := by
  obtain ⟨ls, h1, h2⟩ := h
  exact ⟨ls, h1.same s, Paired.mono2 (fun _ _ z => z.same s) h2⟩
/-- what a step wants of the state -/
structure StepOk (S : PSt) (x : PHand) (ds : List Deed) : Prop where
  few : Few S
  num : x.num ≤ ds.length
  cell : ∀ v, ds[x.num]? = some (.push v) → x.cell ≤ S.nexts.length
  top : ds[x.num]? = some .pop → x.phase ≠ 0 → 1 ≤ x.top ∧ x.top ≤ S.nexts.length
  len : S.nexts.length = S.vals.length
  free : ∀ c ∈ S.free, 1 ≤ c ∧ c ≤ S.vals.length
def spStep (K : PySem.W.Frag) : Sp := fun vs H Q _ => ∃ (a p rl : Addr) (S : PSt) (r : Rule) (i : Nat) (x : PHand) (ps : List (List Deed)) (ds : List Deed), vs = [.ref a, .ref p, .ref rl, .int (i : Int)] ∧ StAt H a S ∧ PgAt K H p ps ∧ RuleAt H rl r ∧ r.pos ∧ S.hands[i]? = some x ∧ ps[i]? = some ds ∧ StepOk S x ds ∧
  ∀ t H', Same H H' → OutAt H' t (stepP r S i x ds) → Q (.ref t) H'
theorem stepP_push {r : Rule} {S : PSt} {i : Nat} {x : PHand} {ds : List Deed} {v : Int} (e : ds[x.num]? = some (.push v)) : stepP r S i x ds = if x.cell = 0 then takeP r S i x v else if x.phase = 0 then readP S i x true else if x.phase = 3 then exchP r S i x true else linkP S i x := by
  unfold stepP
  rw [e]
theorem stepP_pop {r : Rule} {S : PSt} {i : Nat} {x : PHand} {ds : List Deed} (e : ds[x.num]? = some .pop) : stepP r S i x ds = if x.phase = 0 then readP S i x false else if x.phase = 3 then exchP r S i x false else if x.phase = 4 then letP S i x else if x.phase = 1 ∧ mustMark r i = true then markP S i x else followP S i x := by
  unfold stepP
  rw [e]
section
variable {P : Program} {w : World} {K : PySem.W.Frag} {mg : Str → Option Value} {base : Heap}
theorem scStep : FnScope ["state", "programs", "rule", "hand", "doing", "deed", "pushes"] ["state", "programs", "rule", "hand"] (defScope s_step) := ⟨rfl, rfl, rfl, by decide +kernel, rfl, by decide +kernel, by decide +kernel⟩
theorem cal_step (T : TxS K mg) : C8.Cal P w K mg base 5 "step" (spStep K) [] := by
  obtain ⟨f, fd, F, g⟩ := T.step.ex
  obtain ⟨pop, TP⟩ := T.pop
  have C := T.c
  have c_take : C8.Cal P w K mg base 2 "take" spTake [] := cal_take T
  have c_read : C8.Cal P w K mg base 4 "read" spRead [] := cal_read T
  have c_exchange : C8.Cal P w K mg base 4 "exchange" spExchange [] := cal_exchange T
  have c_link : C8.Cal P w K mg base 3 "link" spLink [] := cal_link T
  have c_let_go : C8.Cal P w K mg base 4 "let_go" spLetGo [] := cal_let_go T
  have c_mark_or_look : C8.Cal P w K mg base 3 "mark_or_look" spMark [] := cal_mark_or_look T
  have c_follow : C8.Cal P w K mg base 3 "follow" spFollow [] := cal_follow T
  refine cal_of F g (F.bindsN fun _ _ _ _ _ _ us hl => match us, hl with | [_, _, _, _], _ => rfl) (fok F scStep (fun vs H Q E h => ?_) (fun cdv A outer s H vs Q E hr h => ?_))
  · obtain ⟨a, p, rl, S, r, i, x, ps, ds, rfl, _⟩ := h
    rfl
  · obtain ⟨a, p, rl, S, r, i, x, ps, ds, rfl, st, pg, ru, rp, hi, pi, ok, fin⟩ := h
    refine ⟨_, (pss_cons
    (ps_set (i := 4) scStep.nd rfl (.inl rfl) (pe_ix ix_tup (pe_ix ix_tup (pv 0) (pe_num (n := 5) rfl C.HANDS) (fun _ _ => rfl)) (pv 3) (fun _ _ => rfl))) (Evl.pss_cut
    (ps_if (pt_cmpR op_eq (pe_ix ix_tup (pv 4) (pe_num (n := 0) rfl C.NUMBER) (fun _ _ => rfl)) (pe_callB call_len_seq (by rfl) T.len PySem.boot_len (pa_cons (pe_ix ix_any (pv 1) (pv 3) (fun _ _ => rfl)) pa_nil)) (nomark _)) (pss_one (ps_ret (pe_tup (pa_cons (pe_tup (pa_cons pe_str pa_nil)) (pa_cons (pv 0) pa_nil))))) pss_nil) (pss_cons
    (ps_set (i := 5) scStep.nd rfl (.inl rfl) (pe_ix ix_any (pe_ix ix_any (pv 1) (pv 3) (fun _ _ => rfl)) (pe_ix ix_tup (pv 4) (pe_num (n := 0) rfl C.NUMBER) (fun _ _ => rfl)) (fun _ _ => rfl))) (pss_cons
    (ps_set (i := 6) scStep.nd rfl (.inl rfl) (pe_cmpR (op_neD hr.units) (pv 5) (pe_glob (v := .ref pop) (by rfl) TP.g rfl) (nomark _))) (Evl.pss_cut
    (ps_if (PW.pt (pw_and (pt_val (pv 6)) (pw_and1 (pt_cmpR op_eq (pe_ix ix_tup (pv 4) (pe_num (n := 2) rfl C.CELL) (fun _ _ => rfl)) pe_int (nomark _))))) (pss_one (ps_ret (C8.pe_c c_take hr (by decide) (by rfl) (pa_cons (pv 0) (pa_cons (pv 2) (pa_cons (pv 3) (pa_cons (pe_ix ix_tup (pv 5) pe_int (fun _ _ => rfl)) pa_nil))))))) pss_nil) (Evl.pss_cut
    (ps_if (pt_cmpR op_eq (pe_ix ix_tup (pv 4) (pe_num (n := 1) rfl C.PHASE) (fun _ _ => rfl)) (pe_num (n := 0) rfl C.TO_READ) (nomark _)) (pss_one (ps_ret (C8.pe_c c_read hr (by decide) (by rfl) (pa_cons (pv 0) (pa_cons (pv 3) (pa_cons (pv 6) pa_nil)))))) pss_nil) (Evl.pss_cut
    (ps_if (pt_cmpR op_eq (pe_ix ix_tup (pv 4) (pe_num (n := 1) rfl C.PHASE) (fun _ _ => rfl)) (pe_num (n := 3) rfl C.TO_EXCHANGE) (nomark _)) (pss_one (ps_ret (C8.pe_c c_exchange hr (by decide) (by rfl) (pa_cons (pv 0) (pa_cons (pv 2) (pa_cons (pv 3) (pa_cons (pv 6) pa_nil))))))) pss_nil) (Evl.pss_cut
    (ps_if (pt_val (pv 6)) (pss_one (ps_ret (C8.pe_c c_link hr (by decide) (by rfl) (pa_cons (pv 0) (pa_cons (pv 3) pa_nil))))) pss_nil) (Evl.pss_cut
    (ps_if (pt_cmpR op_eq (pe_ix ix_tup (pv 4) (pe_num (n := 1) rfl C.PHASE) (fun _ _ => rfl)) (pe_num (n := 4) rfl C.HAS_EXCHANGED) (nomark _)) (pss_one (ps_ret (C8.pe_c c_let_go hr (by decide) (by rfl) (pa_cons (pv 0) (pa_cons (pv 3) pa_nil))))) pss_nil) (Evl.pss_cut
    (ps_if (PW.pt (pw_and (pt_cmpR op_eq (pe_ix ix_tup (pv 4) (pe_num (n := 1) rfl C.PHASE) (fun _ _ => rfl)) (pe_num (n := 1) rfl C.HAS_READ) (nomark _)) (pw_and (pt_cmpR op_eq (pe_ix ix_tup (pv 2) pe_int (fun _ _ => rfl)) pe_str (nomark _)) (pw_and1 (pt_cmpR op_in_seq (pv 3) (pe_ix ix_tup (pv 2) pe_int (fun _ _ => rfl)) (by rfl)))))) (pss_one (ps_ret (C8.pe_c c_mark_or_look hr (by decide) (by rfl) (pa_cons (pv 0) (pa_cons (pv 3) pa_nil))))) pss_nil) (pss_one
    (ps_ret (C8.pe_c c_follow hr (by decide) (by rfl) (pa_cons (pv 0) (pa_cons (pv 3) pa_nil))))))))))))))), ?_⟩
    obtain ⟨n, fr, v, hh, as, t, e0, en, ef, ev, eh, pr, et, ex⟩ := st.hand hi
    obtain ⟨ls, p1, p2⟩ := id pg
    obtain ⟨l, el, ts, d1, d2⟩ := paired_get p2 pi
    have dl := d2.len
    rw [List.length_map] at dl
    refine ⟨_, rfl, a, _, 5, _, rfl, rfl, SqT.of e0, rfl, _, rfl, hh, _, (i : Int), .ref t, rfl, rfl, SqT.of eh, at_ref et, ?_⟩
    refine ⟨fun σ' H' => σ' = [some (.ref a), some (.ref p), some (.ref rl), some (.int (i : Int)), some (.ref t), none, none] ∧ H' = H ∧ x.num < ds.length, ?first, ?more⟩
    case first =>
      refine ⟨_, rfl, t, _, 0, _, rfl, rfl, SqT.of ex, rfl, _, rfl, _, rfl, p, _, (i : Int), .ref l, rfl, rfl, p1, at_ref el, l, _, rfl, d1, rfl, _, rfl, ?_⟩
      refine ifEqN ds.length (by rw [List.length_map, dl]) (fun h0 => ?_) (fun h0 => ⟨rfl, rfl, Nat.lt_of_le_of_ne ok.num h0⟩)
      refine ⟨by show 1 ≤ sizeLine; decide, fun u nu => ⟨_, rfl, by show 2 ≤ sizeLine; decide, fun t5 nt => fin t5 _ ((same_upd nu).trans (same_upd nt)) ?_⟩⟩
      have e : ds[x.num]? = none := List.getElem?_eq_none_iff.mpr (by omega)
      unfold stepP
      rw [e]
      exact out_mk nt upd_same (st.same (same_upd nu))
    case more =>
      rintro σ' H' ⟨rfl, rfl, hn⟩
      have ed : ds[x.num]? = some ds[x.num] := List.getElem?_eq_getElem hn
      have tl : x.num < ts.length := by omega
      have etd : ts[x.num]? = some ts[x.num] := List.getElem?_eq_getElem tl
      obtain ⟨row, erow, hrow⟩ := d2.at_ etd
      have erow2 : row = ds[x.num].row := by
        rw [List.getElem?_map, ed] at erow
        exact (Option.some.inj erow).symm
      subst erow2
      refine ⟨_, rfl, _, rfl, p, _, (i : Int), .ref l, rfl, rfl, p1, at_ref el, _, rfl, t, _, 0, _, rfl, rfl, SqT.of ex, rfl, l, _, (x.num : Int), .ref ts[x.num], rfl, rfl, d1, at_ref etd, ?_⟩
      refine ⟨_, rfl, _, _, row_dp hrow, .tup (TP.at_ _) (.cons (.str _) .nil), deed_lay _, pop_lay, ?_⟩
      rw [eqv_pop]
      generalize hd : ds[x.num] = d at ed hrow ⊢
      clear hd
      generalize ts[x.num] = td at hrow etd ⊢
      cases d with
      | push v =>
        rw [stepP_push ed] at fin
        refine ⟨fun σ' H1 => σ' = [some (.ref a), some (.ref p), some (.ref rl), some (.int (i : Int)), some (.ref t), some (.ref td), some (.bl true)] ∧ H1 = H' ∧ x.cell ≠ 0, ?c1, ?m1⟩
        case c1 =>
          refine ⟨_, rfl, _, rfl, iteT ⟨_, rfl, t, _, 2, _, rfl, rfl, SqT.of ex, rfl, rfl, _, rfl, ifEqN 0 rfl (fun h0 => ?_) (fun h0 => ⟨rfl, rfl, h0⟩)⟩⟩
          rw [if_pos h0] at fin
          exact ⟨_, rfl, _, rfl, _, rfl, _, rfl, td, _, 1, .int v, rfl, rfl, hrow, rfl, a, rl, S, r, i, x, v, rfl, st, ru, hi, ok.few, ok.len, ok.free, fin⟩
        case m1 =>
          rintro σ' H1 ⟨rfl, rfl, hc⟩
          rw [if_neg hc] at fin
          refine ⟨fun σ' H2 => σ' = [some (.ref a), some (.ref p), some (.ref rl), some (.int (i : Int)), some (.ref t), some (.ref td), some (.bl true)] ∧ H2 = H1 ∧ x.phase ≠ 0, ?c1, ?m1⟩
          case c1 =>
            refine ⟨_, rfl, t, _, 1, _, rfl, rfl, SqT.of ex, rfl, rfl, _, rfl, ifEqN 0 rfl (fun h0 => ?_) (fun h0 => ⟨rfl, rfl, h0⟩)⟩
            rw [if_pos h0] at fin
            exact ⟨_, rfl, _, rfl, _, rfl, a, S, i, x, true, rfl, st, hi, ok.few, fin⟩
          case m1 =>
            rintro σ' H2 ⟨rfl, rfl, h0⟩
            rw [if_neg h0] at fin
            refine ⟨fun σ' H1 => σ' = [some (.ref a), some (.ref p), some (.ref rl), some (.int (i : Int)), some (.ref t), some (.ref td), some (.bl true)] ∧ H1 = H2 ∧ x.phase ≠ 3, ?c1, ?m1⟩
            case c1 =>
              refine ⟨_, rfl, t, _, 1, _, rfl, rfl, SqT.of ex, rfl, rfl, _, rfl, ifEqN 3 rfl (fun h3 => ?_) (fun h3 => ⟨rfl, rfl, h3⟩)⟩
              rw [if_pos h3] at fin
              exact ⟨_, rfl, _, rfl, _, rfl, _, rfl, a, rl, S, r, i, x, true, rfl, st, ru, rp, hi, ok.few, fin⟩
            case m1 =>
              rintro σ' H1 ⟨rfl, rfl, h3⟩
              rw [if_neg h3] at fin
              refine ⟨fun _ _ => False, ?_, fun _ _ z => z.elim⟩
              refine ⟨_, rfl, _, rfl, iteT ⟨_, rfl, _, rfl, a, S, i, x, rfl, st, hi, ok.few, Nat.pos_of_ne_zero hc, ok.cell v ed, fin⟩⟩
      | pop =>
        rw [stepP_pop ed] at fin
        refine ⟨fun σ' H1 => σ' = [some (.ref a), some (.ref p), some (.ref rl), some (.int (i : Int)), some (.ref t), some (.ref td), some (.bl false)] ∧ H1 = H' ∧ True, ⟨_, rfl, _, rfl, iteF ⟨rfl, rfl, trivial⟩⟩, ?n1⟩
        case n1 =>
          rintro σ' H1 ⟨rfl, rfl, _⟩
          refine ⟨fun σ' H2 => σ' = [some (.ref a), some (.ref p), some (.ref rl), some (.int (i : Int)), some (.ref t), some (.ref td), some (.bl false)] ∧ H2 = H1 ∧ x.phase ≠ 0, ?d1, ?n1⟩
          case d1 =>
            refine ⟨_, rfl, t, _, 1, _, rfl, rfl, SqT.of ex, rfl, rfl, _, rfl, ifEqN 0 rfl (fun h0 => ?_) (fun h0 => ⟨rfl, rfl, h0⟩)⟩
            rw [if_pos h0] at fin
            exact ⟨_, rfl, _, rfl, _, rfl, a, S, i, x, false, rfl, st, hi, ok.few, fin⟩
          case n1 =>
            rintro σ' H2 ⟨rfl, rfl, h0⟩
            rw [if_neg h0] at fin
            obtain ⟨t1, t2⟩ := ok.top ed h0
            refine ⟨fun σ' H1 => σ' = [some (.ref a), some (.ref p), some (.ref rl), some (.int (i : Int)), some (.ref t), some (.ref td), some (.bl false)] ∧ H1 = H2 ∧ x.phase ≠ 3, ?d1, ?n1⟩
            case d1 =>
              refine ⟨_, rfl, t, _, 1, _, rfl, rfl, SqT.of ex, rfl, rfl, _, rfl, ifEqN 3 rfl (fun h3 => ?_) (fun h3 => ⟨rfl, rfl, h3⟩)⟩
              rw [if_pos h3] at fin
              exact ⟨_, rfl, _, rfl, _, rfl, _, rfl, a, rl, S, r, i, x, false, rfl, st, ru, rp, hi, ok.few, fin⟩
            case n1 =>
              rintro σ' H1 ⟨rfl, rfl, h3⟩
              rw [if_neg h3] at fin
              refine ⟨fun σ' H2 => σ' = [some (.ref a), some (.ref p), some (.ref rl), some (.int (i : Int)), some (.ref t), some (.ref td), some (.bl false)] ∧ H2 = H1 ∧ True, ⟨_, rfl, _, rfl, iteF ⟨rfl, rfl, trivial⟩⟩, ?n1⟩
              case n1 =>
                rintro σ' H2 ⟨rfl, rfl, _⟩
                refine ⟨fun σ' H1 => σ' = [some (.ref a), some (.ref p), some (.ref rl), some (.int (i : Int)), some (.ref t), some (.ref td), some (.bl false)] ∧ H1 = H2 ∧ x.phase ≠ 4, ?d1, ?n1⟩
                case d1 =>
                  refine ⟨_, rfl, t, _, 1, _, rfl, rfl, SqT.of ex, rfl, rfl, _, rfl, ifEqN 4 rfl (fun h4 => ?_) (fun h4 => ⟨rfl, rfl, h4⟩)⟩
                  rw [if_pos h4] at fin
                  exact ⟨_, rfl, _, rfl, a, S, i, x, rfl, st, hi, ok.few, t1, by rw [← ok.len]; exact t2, fin⟩
                case n1 =>
                  rintro σ' H1 ⟨rfl, rfl, h4⟩
                  rw [if_neg h4] at fin
                  refine ⟨fun σ' H2 => σ' = [some (.ref a), some (.ref p), some (.ref rl), some (.int (i : Int)), some (.ref t), some (.ref td), some (.bl false)] ∧ H2 = H1 ∧ ¬ (x.phase = 1 ∧ mustMark r i = true), ?d1, ?n1⟩
                  case d1 =>
                    obtain ⟨rest, eT⟩ := ru.word
                    refine ⟨_, rfl, t, _, 1, _, rfl, rfl, SqT.of ex, rfl, rfl, _, rfl, ifEqN 1 rfl (fun h1 => ?_) (fun h1 => iteF ⟨rfl, rfl, fun z => h1 z.1⟩)⟩
                    refine ⟨_, rfl, rl, _, 0, .str r.word, rfl, rfl, SqT.of eT, atI_nat (j := 0) rfl, rfl, _, rfl, ifMarks (fun hs hm => ?_) (fun hm => iteF ⟨rfl, rfl, fun z => ?_⟩)⟩
                    · subst hm
                      obtain ⟨w9, r1, r2⟩ := id ru
                      refine ⟨_, rfl, _, rfl, rl, _, 1, .ref w9, rfl, rfl, SqT.of r1, atI_nat (j := 1) rfl, w9, _, rfl, .inr (SqT.of r2), rfl, flat_nat _, _, rfl, ifIn (fun hc => ?_) (fun hc => ⟨rfl, rfl, fun z => ?_⟩)⟩
                      · rw [if_pos ⟨h1, hc⟩] at fin
                        exact ⟨_, rfl, _, rfl, a, S, i, x, rfl, st, hi, ok.few, fin⟩
                      · have z2 : hs.contains i = true := z.2
                        rw [hc] at z2
                        cases z2
                    · cases r with
                      | marks hs => exact hm hs rfl
                      | counts m => cases z.2
                      | keeps => cases z.2
                  case n1 =>
                    rintro σ' H2 ⟨rfl, rfl, h1⟩
                    rw [if_neg h1] at fin
                    exact ⟨_, rfl, _, rfl, a, S, i, x, rfl, st, hi, ok.few, t1, t2, fin⟩
end
end Sk


namespace Sk
open PySem PySem.Spec PyProof.Rows L2
/-- the two defs that read what is told -/
structure TxT (K : PySem.W.Frag) (mg : Str → Option Value) : Prop where
  decides : DefAt K mg "decides" s_decides
  was_stale : DefAt K mg "was_stale" s_was_stale
def spDecides (K : PySem.W.Frag) : Sp := fun vs H Q _ => ∃ (u : Addr) (st : Stp), vs = [.ref u] ∧ H u = some (.tup st.row) ∧ st.Ok ∧ ∀ H', Same H H' → Q (.bl st.dec) H'
def spWasStale (K : PySem.W.Frag) : Sp := fun vs H Q _ => ∃ (u b : Addr) (st : Stp) (S : PSt) (i : Nat) (x : PHand), vs = [.ref u, .ref b, .int (i : Int)] ∧ H u = some (.tup st.row) ∧ StAt H b S ∧ S.hands[i]? = some x ∧ (st.isEx = true → 1 ≤ x.top ∧ x.top ≤ S.nexts.length) ∧ Q (.bl (staleP st S x)) H
section
variable {P : Program} {w : World} {K : PySem.W.Frag} {mg : Str → Option Value} {base : Heap}
theorem scDecides : FnScope ["told"] ["told"] (defScope s_decides) := ⟨rfl, rfl, rfl, by decide +kernel, rfl, by decide +kernel, by decide +kernel⟩
theorem cal_decides (T : TxT K mg) : C8.Cal P w K mg base 1 "decides" (spDecides K) [] := by
  obtain ⟨f, fd, F, g⟩ := T.decides.ex
  refine cal_of F g (F.bindsN fun _ _ _ _ _ _ us hl => match us, hl with | [_], _ => rfl) (fok F scDecides (fun vs H Q E h => ?_) (fun cdv A outer s H vs Q E hr h => ?_))
  · obtain ⟨u, st, rfl, _⟩ := h
    rfl
  · obtain ⟨u, st, rfl, e, ok, fin⟩ := h
    refine ⟨_, (pss_one (ps_ret (pe_or (pe_cmpR op_eq (pe_ix ix_tup (pv 0) pe_int (fun _ _ => rfl)) pe_str (nomark _)) (pe_or (pe_cmpR (op_eqD hr.units) (pv 0) (pe_tup (pa_cons pe_str (pa_cons pe_str pa_nil))) (nomark _)) (pe_one (pe_cmpR (op_eqD hr.units) (pv 0) (pe_tup (pa_cons pe_str (pa_cons pe_non pa_nil))) (nomark _))))))), ?_⟩
    have e' := e
    rw [row_cons] at e'
    have l1 : SeqAt.shaped (.tuple [.str "ends", .str "done"]) = true := by decide +kernel
    have l2 : SeqAt.shaped (.tuple [.str "ends", .none]) = true := by decide +kernel
    refine ⟨_, rfl, u, _, 0, .str st.word, rfl, rfl, SqT.of e', atI_nat (j := 0) rfl, rfl, _, rfl, ?_⟩
    have f1 : ∀ H', Same H H' → st.isEx = true → Q (.bl true) H' := fun H' s q => by
      have := fin H' s
      unfold Stp.dec at this
      rw [q] at this
      exact this
    have f2 : ∀ H', Same H H' → st.isEx = false → st.isDone = true → Q (.bl true) H' := fun H' s q q2 => by
      have := fin H' s
      unfold Stp.dec at this
      rw [q, q2] at this
      exact this
    have f3 : ∀ H', Same H H' → st.isEx = false → st.isDone = false → Q (.bl st.isNone) H' := fun H' s q q2 => by
      have := fin H' s
      unfold Stp.dec at this
      rw [q, q2] at this
      exact this
    refine (show if decide (V.str st.word = V.str "exchanges") = true then _ else _ from ?_)
    rw [word_ex]
    refine ite2 (fun q => f1 H (.refl H) q) (fun q => ?_)
    have q := Bool.eq_false_iff.mpr q
    refine ⟨_, rfl, by show 2 ≤ sizeLine; decide, fun t1 n1 => ?_⟩
    have s1 := same_upd (o := .tup [V.str "ends", .str "done"]) n1
    refine ⟨_, _, stp_dp ok (SqT.of (s1 _ _ e)), .tup (SqT.of upd_same) (.cons (.str _) (.cons (.str _) .nil)), stp_lay ok, l1, _, rfl, ?_⟩
    refine (show if PyData.eqv st.dat (.tuple [.str "ends", .str "done"]) = true then _ else _ from ?_)
    rw [eqv_done ok]
    refine ite2 (fun q2 => f2 _ s1 q q2) (fun q2 => ?_)
    have q2 := Bool.eq_false_iff.mpr q2
    refine ⟨_, rfl, by show 2 ≤ sizeLine; decide, fun t2 n2 => ?_⟩
    have s2 := same_upd (o := .tup [V.str "ends", .non]) n2
    refine ⟨_, _, stp_dp ok (SqT.of ((s1.trans s2) _ _ e)), .tup (SqT.of upd_same) (.cons (.str _) (.cons .non .nil)), stp_lay ok, l2, ?_⟩
    have := f3 _ (s1.trans s2) q q2
    rw [← eqv_none ok] at this
    exact this
theorem scWasStale : FnScope ["told", "state", "hand", "cell"] ["told", "state", "hand"] (defScope s_was_stale) := ⟨rfl, rfl, rfl, by decide +kernel, rfl, by decide +kernel, by decide +kernel⟩
theorem cal_was_stale (T : TxT K mg) (C : TxC mg) : C8.Cal P w K mg base 1 "was_stale" (spWasStale K) [] := by
  obtain ⟨f, fd, F, g⟩ := T.was_stale.ex
  refine cal_of F g (F.bindsN fun _ _ _ _ _ _ us hl => match us, hl with | [_, _, _], _ => rfl) (fok F scWasStale (fun vs H Q E h => ?_) (fun cdv A outer s H vs Q E hr h => ?_))
  · obtain ⟨u, b, st, S, i, x, rfl, _⟩ := h
    rfl
  · obtain ⟨u, b, st, S, i, x, rfl, e, sa, hi, ok, fin⟩ := h
    refine ⟨_, (pss_cons
    (ps_if (pt_cmpR op_ne (pe_ix ix_tup (pv 0) pe_int (fun _ _ => rfl)) pe_str (nomark _)) (pss_one (ps_ret pe_bl)) pss_nil) (pss_cons
    (ps_set (i := 3) scWasStale.nd rfl (.inl rfl) (pe_ix ix_tup (pe_ix ix_tup (pe_ix ix_tup (pv 1) (pe_num (n := 5) rfl C.HANDS) (fun _ _ => rfl)) (pv 2) (fun _ _ => rfl)) (pe_num (n := 3) rfl C.TOP_READ) (fun _ _ => rfl))) (pss_one
    (ps_ret (pe_cmpR op_ne (pe_ix ix_tup (pe_ix ix_tup (pv 1) (pe_num (n := 2) rfl C.NEXTS) (fun _ _ => rfl)) (pe_op op_sub (pv 3) pe_int) (fun _ _ => rfl)) (pe_ix ix_tup (pv 0) pe_int (fun _ _ => rfl)) (nomark _)))))), ?_⟩
    have e' := e
    rw [row_cons] at e'
    refine ⟨_, rfl, u, _, 0, .str st.word, rfl, rfl, SqT.of e', atI_nat (j := 0) rfl, rfl, _, rfl, ?_⟩
    obtain ⟨n, fr, v, hh, as, t, e0, en, ef, ev, eh, pr, et, ex⟩ := sa.hand hi
    cases st with
    | exchanges c =>
      refine iteF ⟨_, rfl, b, _, 5, _, rfl, rfl, SqT.of e0, rfl, _, rfl, hh, _, (i : Int), .ref t, rfl, rfl, SqT.of eh, at_ref et, t, _, 3, _, rfl, rfl, SqT.of ex, rfl, ?_⟩
      obtain ⟨t1, t2⟩ := ok rfl
      refine ⟨_, rfl, b, _, 2, _, rfl, rfl, SqT.of e0, rfl, _, rfl, _, _, rfl, rfl, n, _, (x.top : Int) - 1, _, rfl, rfl, SqT.of en, at_link t1 t2, _, rfl, u, _, 1, _, rfl, rfl, SqT.of e, rfl, rfl, ?_⟩
      have : staleP (.exchanges c) S x = !decide (V.int (linkAt S.nexts x.top : Int) = V.int (c : Int)) := by
        rw [dec_nat]
        unfold staleP
        by_cases q : linkAt S.nexts x.top = c <;> simp [q]
      rw [this] at fin
      exact fin
    | rests => exact iteT fin
    | takes c => exact iteT fin
    | reads c => exact iteT fin
    | ends c => exact iteT fin
    | links c => exact iteT fin
    | marks c => exact iteT fin
    | looks c => exact iteT fin
    | follows c => exact iteT fin
    | misses => exact iteT fin
end
end Sk


namespace Sk
open PySem PySem.Spec PyProof.Rows L2
def numV : Option Nat → V
  | none => .non
  | some i => .int (i : Int)
def spFirst (K : PySem.W.Frag) : Sp := fun vs H Q _ => ∃ (a : Addr) (ts : List Addr) (rs : List Row), vs = [.ref a] ∧ SqL K H a (ts.map V.ref) ∧ Rows K H ts rs ∧ (∀ r ∈ rs, Lay r) ∧ ∀ H', Same H H' → Q (numV (firstNot okRow rs)) H'
def spDo (K : PySem.W.Frag) : Sp := fun vs H Q _ => ∃ (p t : Addr) (pile : List Int) (d : Deed), vs = [.ref p, .ref t] ∧ H p = some (.lst (pile.map V.int)) ∧ SqT K H t (rowV d.row) ∧ pile.length ≤ 10000 ∧
  ∀ H', But p H H' → H' p = some (.lst ((act pile d).2.map V.int)) → Q (act pile d).1 H'
/-- what serial promises -/
def spSerial (K : PySem.W.Frag) (CP CD : Addr) : Sp := fun vs H Q E => ∃ (a b : Addr) (ns : List Int) (ts : List Addr) (rs : List Row), vs = [.ref a, .ref b] ∧ SqL K H a (ns.map V.int) ∧ ns.length ≤ 1000 ∧ SqL K H b (ts.map V.ref) ∧ Rows K H ts rs ∧ ts.length ≤ 1000 ∧ (∀ r ∈ rs, Lay r) ∧
  (6 < ns.length → Wants E H CP [("at", .int 6)]) ∧ (ns.length ≤ 6 → ∀ i : Nat, firstNot valB ns = some i → Wants E H CP [("at", .int (i : Int))]) ∧
  (ns.length ≤ 6 → firstNot valB ns = none → ∀ i : Nat, firstNot okRow rs = some i → Wants E H CD [("number", .int (i : Int)), ("hand", .int 0)]) ∧
  (ns.length ≤ 6 → firstNot valB ns = none → ∀ ds : List Deed, rs = ds.map Deed.row → (∀ d ∈ ds, d.fit) → ∀ (t A B : Addr) (H' : Hp), Same H H' → H A = none → H B = none → A ≠ B → H' t = some (.tup [.ref A, .ref B]) → H' A = some (.lst (acts ns ds).1) →
    H' B = some (.lst ((acts ns ds).2.map V.int)) → Q (.ref t) H')
theorem deeds_of : ∀ {rs : List Row}, (∀ r ∈ rs, okRow r = true) → ∃ ds : List Deed, rs = ds.map Deed.row ∧ ∀ d ∈ ds, d.fit
  | [], _ => ⟨[], rfl, fun d h => by cases h⟩
  | r :: rs, h => by
    obtain ⟨d, e, f⟩ := ok_deed (h r List.mem_cons_self)
    obtain ⟨ds, e2, f2⟩ := deeds_of fun x hx => h x (List.mem_cons_of_mem _ hx)
    refine ⟨d :: ds, by rw [e, e2]; rfl, fun x hx => ?_⟩
    rcases List.mem_cons.mp hx with q | q
    · rw [q]; exact f
    · exact f2 x q
section
variable {P : Program} {w : World} {K : PySem.W.Frag} {mg : Str → Option Value} {base : Heap} {f : Addr} {fd : FuncData}
theorem scFirst : FnScope ["deeds", "number", "deed"] ["deeds"] (defScope sFirst) := ⟨rfl, rfl, rfl, by decide +kernel, rfl, by decide +kernel, by decide +kernel⟩
theorem ok_first {fI fV pop : Addr} {fdI fdV : FuncData} (F : FnP K "first_bad_deed" "first_bad_deed" sFirst f fd) (FI : FnP K "is_deed" "is_deed" sIsDeed fI fdI) (gI : mg "is_deed" = some (.ref fI)) (FV : FnP K "is_value" "is_value" sIsVal fV fdV) (gV : mg "is_value" = some (.ref fV))
    (mH : ∃ t, mg "HIGHEST_VALUE" = some (.int 99 t)) (TP : TxPop K mg pop) (mL : mg "len" = none) (mE : mg "enumerate" = none) : FnOk P w K mg base CX0 3 f fd ["deeds"] (spFirst K) := by
  have G : FnOk P w K mg base CX0 2 fI fdI ["deed"] (spIsDeed K) := ok_isDeed FI FV gV mH TP mL
  have b : Binds K fdI ["deed"] [] := FI.bindsN fun _ _ _ _ _ _ us hl => match us, hl with | [_], _ => rfl
  refine fok F scFirst (fun vs H Q E h => ?_) (fun cdv A outer s H vs Q E hr h => ?_)
  · obtain ⟨a, ts, rs, rfl, _⟩ := h
    rfl
  · obtain ⟨a, ts, rs, rfl, hS, hR, hL, k⟩ := h
    refine ⟨_, pss_cons (ps_for PassesOwn.never rfl (pi_enum (by rfl) mE (pa_cons (pv 0) pa_nil)) (pg_tup (by rfl) (pgs_cons (pg_name (i := 1) scFirst.nd rfl (.inl rfl)) (pgs_cons (pg_name (i := 2) scFirst.nd rfl (.inl rfl)) pgs_nil)))
        (pss_one (ps_if (pt_not (pt_val (pe_call G hr rfl gI FI.kp b .nil pass0 (pa_cons (pv 2) pa_nil)))) (pss_one (ps_ret (pv 1))) pss_nil)))
      (pss_one (ps_ret pe_non)), ?_⟩
    have hlen := Rows.len hR
    refine ⟨_, rfl, a, _, rfl, hS, for_it walk_enum (fun i σ H' => Same H H' ∧ (∃ u v : Option V, σ = [some (.ref a), u, v]) ∧ ∀ j, j < i → ∀ y, rs[j]? = some y → okRow y = true) ⟨.refl H, ⟨none, none, rfl⟩, fun j hj => absurd hj (Nat.not_lt_zero _)⟩ (fun i σ H' _ z => z.1.seq hS) ?_ ?_⟩
    · rintro i x σ H1 H2 hi ⟨s1, ⟨u, v, rfl⟩, before⟩ ⟨t, x1, x2, rfl, nt, rfl, e1, e2⟩
      have e1' : V.int (i : Nat) = x1 := Option.some.inj e1
      subst e1'
      rw [List.length_map] at hi
      have e3 : x2 = V.ref ts[i] := by
        have e4 : (ts.map V.ref)[i]? = some x2 := e2
        rw [List.getElem?_map, List.getElem?_eq_getElem hi] at e4
        exact (Option.some.inj e4).symm
      subst e3
      have s2 : Same H (upd H1 t (.tup [.int (i : Nat), .ref ts[i]])) := s1.trans (same_upd nt)
      obtain ⟨r, er, hr0⟩ := hR.at_ (List.getElem?_eq_getElem hi)
      refine ⟨t, _, rfl, SqT.of upd_same, rfl, _, _, rfl, _, _, rfl, rfl, _, rfl, _, r, rfl, same_tup s2 hr0, hL _ (List.mem_of_getElem? er), _, rfl, ?_⟩
      refine ite2 (fun hb => ?_) (fun hb => ?_)
      · have hv : okRow r = false := by simpa using hb
        have e : firstNot okRow rs = some i := firstNot_of er hv before
        rw [e] at k
        exact ⟨_, rfl, k _ s2⟩
      · have hv : okRow r = true := by simpa using hb
        refine ⟨s2, ⟨_, _, rfl⟩, fun j hj y hy => ?_⟩
        by_cases hji : j = i
        · subst hji
          rw [er] at hy
          rw [← Option.some.inj hy]
          exact hv
        · exact before j (by omega) y hy
    · rintro σ H1 ⟨s1, ⟨u, v, rfl⟩, before⟩
      have e : firstNot okRow rs = none := firstNot_all fun x hx => by
        obtain ⟨j, hj, e⟩ := List.mem_iff_getElem.mp hx
        exact before j (by rw [List.length_map, hlen]; exact hj) x (by rw [List.getElem?_eq_getElem hj, e])
      rw [e] at k
      exact k H1 s1
end
end Sk


/-! The checks of what is handed in, where nothing is refused. -/
namespace Sk
open PySem PySem.Spec PyProof.Rows L2
structure TxK (K : PySem.W.Frag) (mg : Str → Option Value) : Prop where
  is_value : DefAt K mg "is_value" sIsVal
  is_deed : DefAt K mg "is_deed" sIsDeed
  check_values : DefAt K mg "check_values" sChkV
  first_bad_deed : DefAt K mg "first_bad_deed" sFirst
  check_programs : DefAt K mg "check_programs" s_check_programs
  are_rising_hands : DefAt K mg "are_rising_hands" s_are_rising_hands
  is_rule : DefAt K mg "is_rule" s_is_rule
  check_pile_and_programs : DefAt K mg "check_pile_and_programs" s_check_pile_and_programs
  check_all : DefAt K mg "check_all" s_check_all
  HIGHEST_VALUE : IntG mg "HIGHEST_VALUE" 99
  MOST_VALUES : IntG mg "MOST_VALUES" 6
  MOST_HANDS : IntG mg "MOST_HANDS" 3
  MOST_DEEDS : IntG mg "MOST_DEEDS" 4
  MOST_COUNTS : IntG mg "MOST_COUNTS" 15
  pop : ∃ p, TxPop K mg p
  len : mg "len" = none
  enumerate : mg "enumerate" = none
  isinstance : mg "isinstance" = none
  int : mg "int" = none
  tuple : mg "tuple" = none
/-- programs that can be -/
def Fit (ps : List (List Deed)) : Prop := 1 ≤ ps.length ∧ ps.length ≤ 3 ∧ ∀ ds ∈ ps, ds.length ≤ 4 ∧ ∀ d ∈ ds, d.fit
def FitV (xs : List Int) : Prop := xs.length ≤ 6 ∧ ∀ x ∈ xs, 0 ≤ x ∧ x < 100
def spChk (K : PySem.W.Frag) : Sp := fun vs H Q _ => ∃ (a : Addr) (xs : List Int), vs = [.ref a] ∧ SqL K H a (xs.map V.int) ∧ FitV xs ∧ ∀ H', Same H H' → Q .non H'
def spChkP (K : PySem.W.Frag) : Sp := fun vs H Q _ => ∃ (p : Addr) (ps : List (List Deed)), vs = [.ref p] ∧ Progs K H p ps ∧ Fit ps ∧ ∀ H', Same H H' → Q .non H'
def spChkVP (K : PySem.W.Frag) : Sp := fun vs H Q _ => ∃ (a p : Addr) (xs : List Int) (ps : List (List Deed)), vs = [.ref a, .ref p] ∧ SqL K H a (xs.map V.int) ∧ FitV xs ∧ Progs K H p ps ∧ Fit ps ∧ ∀ H', Same H H' → Q .non H'
def spChkA (K : PySem.W.Frag) : Sp := fun vs H Q _ => ∃ (a p rl : Addr) (xs : List Int) (ps : List (List Deed)) (r : Rule), vs = [.ref a, .ref p, .ref rl] ∧ SqL K H a (xs.map V.int) ∧ FitV xs ∧ Progs K H p ps ∧ Fit ps ∧ RuleAt H rl r ∧ r.fit ps.length ∧ ∀ H', Same H H' → Q .non H'
def spRising (K : PySem.W.Frag) : Sp := fun vs H Q _ => ∃ (u : Addr) (hs : List Nat) (n : Nat), vs = [.ref u, .int (n : Int)] ∧ H u = some (.tup (vN hs)) ∧ hs.Pairwise (· < ·) ∧ (∀ h ∈ hs, h < n) ∧ Q (.bl true) H
def spIsRule (K : PySem.W.Frag) : Sp := fun vs H Q _ => ∃ (rl : Addr) (r : Rule) (n : Nat), vs = [.ref rl, .int (n : Int)] ∧ RuleAt H rl r ∧ r.fit n ∧ ∀ H', Same H H' → Q (.bl true) H'
theorem val_of {x : Int} (h : 0 ≤ x ∧ x < 100) : valB x = true := by
  unfold valB
  rw [decide_eq_true h.1, decide_eq_true (by omega)]
  rfl
section
variable {P : Program} {w : World} {K : PySem.W.Frag} {mg : Str → Option Value} {base : Heap}
theorem cal_is_value (T : TxK K mg) : C8.Cal P w K mg base 1 "is_value" spIsVal [] := by
  obtain ⟨f, fd, F, g⟩ := T.is_value.ex
  exact cal_of F g (F.bindsN fun _ _ _ _ _ _ us hl => match us, hl with | [_], _ => rfl) (ok_isVal F T.HIGHEST_VALUE)
theorem cal_first_bad_deed (T : TxK K mg) : C8.Cal P w K mg base 3 "first_bad_deed" (spFirst K) [] := by
  obtain ⟨f, fd, F, g⟩ := T.first_bad_deed.ex
  obtain ⟨f1, fd1, F1, g1⟩ := T.is_value.ex
  obtain ⟨f2, fd2, F2, g2⟩ := T.is_deed.ex
  obtain ⟨p, TP⟩ := T.pop
  exact cal_of F g (F.bindsN fun _ _ _ _ _ _ us hl => match us, hl with | [_], _ => rfl) (ok_first F F2 g2 F1 g1 T.HIGHEST_VALUE TP T.len T.enumerate)
theorem cal_check_values (T : TxK K mg) : C8.Cal P w K mg base 2 "check_values" (spChk K) [] := by
  obtain ⟨f, fd, F, g⟩ := T.check_values.ex
  have C := T
  have c_is_value : C8.Cal P w K mg base 1 "is_value" spIsVal [] := cal_is_value T
  refine cal_of F g (F.bindsN fun _ _ _ _ _ _ us hl => match us, hl with | [_], _ => rfl) (fok F scChkV (fun vs H Q E h => ?_) (fun cdv A outer s H vs Q E hr h => ?_))
  · obtain ⟨a, xs, rfl, _⟩ := h
    rfl
  · obtain ⟨a, xs, rfl, hS, fv, fin⟩ := h
    refine ⟨_, (Evl.pss_cut
    (ps_if (pt_cmpR op_gt (pe_callB call_len_seq (by rfl) T.len PySem.boot_len (pa_cons (pv 0) pa_nil)) (pe_num (n := 6) rfl C.MOST_VALUES) (nomark _)) (pss_one (ps_no)) pss_nil) (pss_one
    (ps_for PassesOwn.never rfl (pi_enum (by rfl) T.enumerate (pa_cons (pv 0) pa_nil)) (pg_tup (by rfl) (pgs_cons (pg_name (i := 1) scChkV.nd rfl (.inl rfl)) (pgs_cons (pg_name (i := 2) scChkV.nd rfl (.inl rfl)) pgs_nil))) (pss_one (ps_if (pt_not (pt_val (C8.pe_c c_is_value hr (by decide) (by rfl) (pa_cons (pv 2) pa_nil)))) (pss_one (ps_no)) pss_nil))))), ?_⟩
    refine ⟨fun σ' H' => σ' = [some (.ref a), none, none] ∧ H' = H, ⟨_, rfl, a, _, rfl, .inl hS, _, _, rfl, rfl, _, rfl, ite2 (fun hl => ?_) (fun hl => ⟨rfl, rfl⟩)⟩, ?_⟩
    · have := of_decide_eq_true hl
      rw [List.length_map] at this
      have := fv.1
      omega
    · rintro σ' H' ⟨rfl, rfl⟩
      refine ⟨_, rfl, a, _, rfl, hS, for_it walk_enum (fun i σ H1 => Same H' H1 ∧ ∃ u v : Option V, σ = [some (.ref a), u, v]) ⟨.refl H', none, none, rfl⟩ (fun i σ H1 _ z => z.1.seq hS) ?_ ?_⟩
      · rintro i x σ H1 H2 hi ⟨s1, u, v, rfl⟩ ⟨t, x1, x2, rfl, nt, rfl, e1, e2⟩
        rw [List.length_map] at hi
        have e3 : x2 = V.int xs[i] := by
          have e4 : (xs.map V.int)[i]? = some x2 := e2
          rw [List.getElem?_map, List.getElem?_eq_getElem hi] at e4
          exact (Option.some.inj e4).symm
        subst e3
        refine ⟨t, _, rfl, SqT.of upd_same, rfl, _, _, rfl, _, _, rfl, rfl, _, rfl, _, rfl, _, rfl, ?_⟩
        rw [val_of (fv.2 _ (List.getElem_mem hi))]
        exact iteF ⟨s1.trans (same_upd nt), _, _, rfl⟩
      · rintro σ H1 ⟨s1, u, v, rfl⟩
        exact fin H1 s1
end
end Sk


namespace Sk
open PySem PySem.Spec PyProof.Rows L2
section
variable {P : Program} {w : World} {K : PySem.W.Frag} {mg : Str → Option Value} {base : Heap}
theorem rows_ok {ds : List Deed} (h : ∀ d ∈ ds, d.fit) : firstNot okRow (ds.map Deed.row) = none := firstNot_all fun r hr => by
  obtain ⟨d, hd, e⟩ := List.mem_map.mp hr
  rw [← e]
  exact deed_ok (h d hd)
theorem scChkP : FnScope ["programs", "hand", "deeds", "bad"] ["programs"] (defScope s_check_programs) := ⟨rfl, rfl, rfl, by decide +kernel, rfl, by decide +kernel, by decide +kernel⟩
theorem cal_check_programs (T : TxK K mg) : C8.Cal P w K mg base 4 "check_programs" (spChkP K) [] := by
  obtain ⟨f, fd, F, g⟩ := T.check_programs.ex
  have C := T
  have c_first_bad_deed : C8.Cal P w K mg base 3 "first_bad_deed" (spFirst K) [] := cal_first_bad_deed T
  refine cal_of F g (F.bindsN fun _ _ _ _ _ _ us hl => match us, hl with | [_], _ => rfl) (fok F scChkP (fun vs H Q E h => ?_) (fun cdv A outer s H vs Q E hr h => ?_))
  · obtain ⟨p, ps, rfl, _⟩ := h
    rfl
  · obtain ⟨p, ps, rfl, pg, ft, fin⟩ := h
    refine ⟨_, (Evl.pss_cut
    (ps_if (pt_not (pt_chain op_le op_le pe_int (pe_callB call_len_seq (by rfl) T.len PySem.boot_len (pa_cons (pv 0) pa_nil)) (pe_num (n := 3) rfl C.MOST_HANDS))) (pss_one (ps_no)) pss_nil) (pss_one
    (ps_for PassesOwn.never rfl (pi_enum (by rfl) T.enumerate (pa_cons (pv 0) pa_nil)) (pg_tup (by rfl) (pgs_cons (pg_name (i := 1) scChkP.nd rfl (.inl rfl)) (pgs_cons (pg_name (i := 2) scChkP.nd rfl (.inl rfl)) pgs_nil))) (Evl.pss_cut
    (ps_if (pt_cmpR op_gt (pe_callB call_len_seq (by rfl) T.len PySem.boot_len (pa_cons (pv 2) pa_nil)) (pe_num (n := 4) rfl C.MOST_DEEDS) (nomark _)) (pss_one (ps_no)) pss_nil) (pss_cons
    (ps_set (i := 3) scChkP.nd rfl (.inl rfl) (C8.pe_c c_first_bad_deed hr (by decide) (by rfl) (pa_cons (pv 2) pa_nil))) (pss_one
    (ps_if (pt_cmpR op_notN (pv 3) pe_non (nomark _)) (pss_one (ps_no)) pss_nil))))))), ?_⟩
    obtain ⟨ls, p1, p2⟩ := id pg
    obtain ⟨f1, f2, f3⟩ := ft
    have ll := paired_len p2
    refine ⟨fun σ' H' => σ' = [some (.ref p), none, none, none] ∧ H' = H, ⟨_, rfl, p, _, rfl, .inl (SqL.of p1), _, _, rfl, rfl, _, rfl, ite2 (fun hl => ⟨_, _, rfl, rfl, _, rfl, ite2 (fun hl => ?_) (fun hl => ⟨rfl, rfl⟩)⟩) (fun hl => ?_)⟩, ?_⟩
    · have : ¬ ((((ls.map V.ref).length : Nat) : Int) ≤ 3) := by simpa using hl
      rw [List.length_map] at this
      omega
    · refine absurd (decide_eq_true ?_) hl
      rw [List.length_map]
      omega
    · rintro σ' H' ⟨rfl, rfl⟩
      refine ⟨_, rfl, p, _, rfl, SqL.of p1, for_it walk_enum (fun i σ H1 => Same H' H1 ∧ ∃ u v x : Option V, σ = [some (.ref p), u, v, x]) ⟨.refl H', none, none, none, rfl⟩ (fun i σ H1 _ z => SqL.of (z.1 _ _ p1)) ?_ ?_⟩
      · rintro i x σ H1 H2 hi ⟨s1, u, v, b, rfl⟩ ⟨t, x1, x2, rfl, nt, rfl, e1, e2⟩
        rw [List.length_map] at hi
        have hi2 : i < ps.length := by omega
        obtain ⟨l, el, ts, d1, d2⟩ := paired_get p2 (List.getElem?_eq_getElem hi2)
        have e3 : x2 = V.ref l := by
          have e4 : (ls.map V.ref)[i]? = some x2 := e2
          rw [List.getElem?_map, el] at e4
          exact (Option.some.inj e4).symm
        subst e3
        have s2 := s1.trans (same_upd (o := .tup [x1, V.ref l]) nt)
        obtain ⟨g1, g2⟩ := f3 _ (List.getElem_mem hi2)
        have dl := d2.len
        rw [List.length_map] at dl
        refine ⟨t, _, rfl, SqT.of upd_same, rfl, _, _, rfl, _, _, rfl, rfl, ?_⟩
        refine ⟨fun σ' H3 => σ' = [some (.ref p), some x1, some (.ref l), b] ∧ H3 = _, ⟨_, rfl, l, _, rfl, .inl (SqL.of (s2 _ _ d1)), _, _, rfl, rfl, _, rfl, ite2 (fun hl => ?_) (fun hl => ⟨rfl, rfl⟩)⟩, ?_⟩
        · have := of_decide_eq_true hl
          rw [List.length_map] at this
          omega
        · rintro σ' H3 ⟨rfl, rfl⟩
          refine ⟨_, rfl, l, ts, ps[i].map Deed.row, rfl, SqL.of (s2 _ _ d1), d2.mono fun t xs z => same_tup s2 z, fun r hr => ?_, fun H4 s4 => ?_⟩
          · obtain ⟨d, _, e⟩ := List.mem_map.mp hr
            rw [← e]
            exact deed_lay d
          · rw [rows_ok g2]
            exact ⟨_, rfl, rfl, _, rfl, iteF ⟨s2.trans s4, _, _, _, rfl⟩⟩
      · rintro σ H1 ⟨s1, u, v, x, rfl⟩
        exact fin H1 s1
theorem scRising : FnScope ["hands", "many", "lowest", "hand"] ["hands", "many"] (defScope s_are_rising_hands) := ⟨rfl, rfl, rfl, by decide +kernel, rfl, by decide +kernel, by decide +kernel⟩
theorem cal_are_rising_hands (T : TxK K mg) : C8.Cal P w K mg base 1 "are_rising_hands" (spRising K) [] := by
  obtain ⟨f, fd, F, g⟩ := T.are_rising_hands.ex
  refine cal_of F g (F.bindsN fun _ _ _ _ _ _ us hl => match us, hl with | [_, _], _ => rfl) (fok F scRising (fun vs H Q E h => ?_) (fun cdv A outer s H vs Q E hr h => ?_))
  · obtain ⟨u, hs, n, rfl, _⟩ := h
    rfl
  · obtain ⟨u, hs, n, rfl, eu, hp, hb, fin⟩ := h
    refine ⟨_, (pss_cons
    (ps_set (i := 2) scRising.nd rfl (.inl rfl) pe_int) (pss_cons
    (ps_for PassesOwn.never rfl (pi_tup (pv 0)) (pg_name (i := 3) scRising.nd rfl (.inl rfl)) (pss_cons
    (ps_if (pt_not (pt_chain op_le op_lt (pv 2) (pv 3) (pv 1))) (pss_one (ps_ret pe_bl)) pss_nil) (pss_one
    (ps_set (i := 2) scRising.nd rfl (.inl rfl) (pe_op op_add (pv 3) pe_int))))) (pss_one
    (ps_ret pe_bl)))), ?_⟩
    refine ⟨_, rfl, u, rfl, ⟨_, SqT.of eu⟩, for_tup (K := K) (a := u) (xs := vN hs) (fun i σ H1 => H1 = H ∧ ∃ (lo : Nat) (v : Option V), σ = [some (.ref u), some (.int (n : Int)), some (.int (lo : Int)), v] ∧ ∀ j, i ≤ j → ∀ h, hs[j]? = some h → lo ≤ h) ⟨rfl, 0, none, rfl, fun _ _ _ _ => Nat.zero_le _⟩ (fun i σ H1 _ z => by rw [z.1]; exact SqT.of eu) ?_ ?_⟩
    · rintro i x σ H1 hx ⟨rfl, lo, v, rfl, hlo⟩
      have hi : i < hs.length := by
        have := (List.getElem?_eq_some_iff.mp hx).1
        rw [List.length_map] at this
        exact this
      have ex : x = V.int (hs[i] : Nat) := by
        unfold vN at hx
        rw [List.getElem?_map, List.getElem?_eq_getElem hi] at hx
        exact (Option.some.inj hx).symm
      subst ex
      have l1 := hlo i (Nat.le_refl _) _ (List.getElem?_eq_getElem hi)
      have l2 := hb _ (List.getElem_mem hi)
      refine ⟨_, rfl, _, rfl, _, _, rfl, rfl, _, rfl, ite2 (fun q => ⟨_, rfl, _, _, rfl, rfl, _, rfl, ite2 (fun q => ?_) (fun q => ?_)⟩) (fun q => ?_)⟩
      · have : ¬ (((hs[i] : Nat) : Int) < (n : Int)) := by simpa using q
        omega
      · refine ⟨_, rfl, _, _, rfl, rfl, rfl, hs[i] + 1, _, rfl, fun j hj h eh => ?_⟩
        obtain ⟨jl, ej⟩ := List.getElem?_eq_some_iff.mp eh
        have := List.pairwise_iff_getElem.mp hp i j hi jl (by omega)
        omega
      · exact absurd (decide_eq_true (by omega)) q
    · rintro σ H1 ⟨rfl, lo, v, rfl, _⟩
      exact fin
theorem scIsRule : FnScope ["rule", "many", "word", "told"] ["rule", "many"] (defScope s_is_rule) := ⟨rfl, rfl, rfl, by decide +kernel, rfl, by decide +kernel, by decide +kernel⟩
theorem cal_is_rule (T : TxK K mg) : C8.Cal P w K mg base 2 "is_rule" (spIsRule K) [] := by
  obtain ⟨f, fd, F, g⟩ := T.is_rule.ex
  have C := T
  have c_are_rising_hands : C8.Cal P w K mg base 1 "are_rising_hands" (spRising K) [] := cal_are_rising_hands T
  refine cal_of F g (F.bindsN fun _ _ _ _ _ _ us hl => match us, hl with | [_, _], _ => rfl) (fok F scIsRule (fun vs H Q E h => ?_) (fun cdv A outer s H vs Q E hr h => ?_))
  · obtain ⟨rl, r, n, rfl, _⟩ := h
    rfl
  · obtain ⟨rl, r, n, rfl, ru, rf, fin⟩ := h
    refine ⟨_, (Evl.pss_cut
    (ps_if (pt_cmpR (op_eqD hr.units) (pv 0) (pe_tup (pa_cons pe_str pa_nil)) (nomark _)) (pss_one (ps_ret pe_bl)) pss_nil) (Evl.pss_cut
    (ps_if (pt_cmpR op_ne (pe_callB call_len_seq (by rfl) T.len PySem.boot_len (pa_cons (pv 0) pa_nil)) pe_int (nomark _)) (pss_one (ps_ret pe_bl)) pss_nil) (pss_cons
    (ps_asg (pv 0) (pg_tup (by rfl) (pgs_cons (pg_name (i := 2) scIsRule.nd rfl (.inl rfl)) (pgs_cons (pg_name (i := 3) scIsRule.nd rfl (.inl rfl)) pgs_nil)))) (Evl.pss_cut
    (ps_if (pt_cmpR op_eq (pv 2) pe_str (nomark _)) (pss_one (ps_ret (pe_and (pe_callB call_isi (by rfl) T.isinstance boot_isinstance (pa_cons (pv 3) (pa_cons (pe_bltn (v := .ty "int") (by rfl) T.int (by decide +kernel) rfl) pa_nil))) (pe_one (pe_chain op_le op_le pe_int (pv 3) (pe_num (n := 15) rfl C.MOST_COUNTS)))))) pss_nil) (pss_one
    (ps_ret (pe_and (pe_cmpR op_eq (pv 2) pe_str (nomark _)) (pe_and (pe_callB call_isi (by rfl) T.isinstance boot_isinstance (pa_cons (pv 3) (pa_cons (pe_bltn (v := .ty "tuple") (by rfl) T.tuple (by decide +kernel) rfl) pa_nil))) (pe_one (C8.pe_c c_are_rising_hands hr (by decide) (by rfl) (pa_cons (pv 3) (pa_cons (pv 1) pa_nil)))))))))))), ?_⟩
    have l1 : SeqAt.shaped (.tuple [.str sKeeps]) = true := by decide +kernel
    refine ⟨fun σ' H' => σ' = [some (.ref rl), some (.int (n : Int)), none, none] ∧ Same H H' ∧ r ≠ .keeps, ?c1, ?m1⟩
    case c1 =>
      refine ⟨_, rfl, by show 1 ≤ sizeLine; decide, fun t1 n1 => ?_⟩
      have s1 := same_upd (o := .tup [V.str sKeeps]) n1
      refine ⟨_, _, rule_dp (ru.same s1), .tup (SqT.of upd_same) (.cons (.str _) .nil), rule_lay r, l1, _, rfl, ?_⟩
      refine (show if PyData.eqv r.dat (.tuple [.str sKeeps]) = true then _ else _ from ?_)
      rw [rule_eqv]
      cases r with
      | keeps => exact iteT (fin _ s1)
      | counts m => exact iteF ⟨rfl, s1, fun z => by cases z⟩
      | marks hs => exact iteF ⟨rfl, s1, fun z => by cases z⟩
    case m1 =>
      rintro σ' H' ⟨rfl, s1, hk⟩
      have ru1 := ru.same s1
      cases r with
      | keeps => exact absurd rfl hk
      | counts m =>
        have e : H' rl = some (.tup [.str sCounts, .int (m : Int)]) := ru1
        obtain ⟨m1, m2⟩ := rf
        refine ⟨fun σ' H2 => σ' = [some (.ref rl), some (.int (n : Int)), none, none] ∧ H2 = H', ⟨_, rfl, rl, _, rfl, .inr (SqT.of e), rfl, _, rfl, iteF ⟨rfl, rfl⟩⟩, ?_⟩
        rintro σ' H2 ⟨rfl, rfl⟩
        refine ⟨_, rfl, rl, _, rfl, SqT.of e, rfl, _, _, rfl, _, _, rfl, rfl, ?_⟩
        refine ⟨fun _ _ => False, ⟨_, rfl, rfl, _, rfl, iteT ?_⟩, fun _ _ z => z.elim⟩
        have tx : TyX K H2 (V.int (m : Int)) (.type "int") := .base (.int _)
        refine ⟨_, rfl, _, _, _, _, _, rfl, .ty _, tx, kit_ty (r := true) (by decide +kernel), _, rfl, iteT ?_⟩
        refine ⟨_, rfl, _, _, rfl, rfl, _, rfl, ite2 (fun q => ⟨_, _, rfl, rfl, ?_⟩) (fun q => absurd (decide_eq_true (by omega)) q)⟩
        have q2 := fin H2 s1
        rw [← show decide ((m : Int) ≤ 15) = true from decide_eq_true (by omega)] at q2
        exact q2
      | marks hs =>
        obtain ⟨u, e, eu⟩ := id ru1
        obtain ⟨m1, m2⟩ := rf
        refine ⟨fun σ' H2 => σ' = [some (.ref rl), some (.int (n : Int)), none, none] ∧ H2 = H', ⟨_, rfl, rl, _, rfl, .inr (SqT.of e), rfl, _, rfl, iteF ⟨rfl, rfl⟩⟩, ?_⟩
        rintro σ' H2 ⟨rfl, rfl⟩
        refine ⟨_, rfl, rl, _, rfl, SqT.of e, rfl, _, _, rfl, _, _, rfl, rfl, ?_⟩
        refine ⟨fun σ' H3 => σ' = [some (.ref rl), some (.int (n : Int)), some (.str sMarks), some (.ref u)] ∧ H3 = H2, ⟨_, rfl, rfl, _, rfl, iteF ⟨rfl, rfl⟩⟩, ?_⟩
        rintro σ' H3 ⟨rfl, rfl⟩
        have tx : TyX K H3 (V.ref u) (.type "tuple") := sqt_ty (SqT.of eu)
        exact ⟨_, rfl, rfl, _, rfl, iteT ⟨_, rfl, _, _, _, _, _, rfl, .ty _, tx, kit_ty (r := true) (by decide +kernel), _, rfl, iteT ⟨_, rfl, _, rfl, u, hs, n, rfl, eu, m1, m2, fin H3 s1⟩⟩⟩
theorem scChkVP : FnScope ["values", "programs"] ["values", "programs"] (defScope s_check_pile_and_programs) := ⟨rfl, rfl, rfl, by decide +kernel, rfl, by decide +kernel, by decide +kernel⟩
theorem cal_check_pile_and_programs (T : TxK K mg) : C8.Cal P w K mg base 5 "check_pile_and_programs" (spChkVP K) [] := by
  obtain ⟨f, fd, F, g⟩ := T.check_pile_and_programs.ex
  have c_check_values : C8.Cal P w K mg base 2 "check_values" (spChk K) [] := cal_check_values T
  have c_check_programs : C8.Cal P w K mg base 4 "check_programs" (spChkP K) [] := cal_check_programs T
  refine cal_of F g (F.bindsN fun _ _ _ _ _ _ us hl => match us, hl with | [_, _], _ => rfl) (fok F scChkVP (fun vs H Q E h => ?_) (fun cdv A outer s H vs Q E hr h => ?_))
  · obtain ⟨a, p, xs, ps, rfl, _⟩ := h
    rfl
  · obtain ⟨a, p, xs, ps, rfl, hS, fv, pg, ft, fin⟩ := h
    refine ⟨_, (pss_cons
    (ps_expr (C8.pe_c c_check_values hr (by decide) (by rfl) (pa_cons (pv 0) pa_nil))) (pss_one
    (ps_expr (C8.pe_c c_check_programs hr (by decide) (by rfl) (pa_cons (pv 1) pa_nil))))), ?_⟩
    exact ⟨_, rfl, a, xs, rfl, hS, fv, fun H1 s1 => ⟨_, rfl, p, ps, rfl, pg.same s1, ft, fun H2 s2 => fin H2 (s1.trans s2)⟩⟩
theorem scChkA : FnScope ["values", "programs", "rule"] ["values", "programs", "rule"] (defScope s_check_all) := ⟨rfl, rfl, rfl, by decide +kernel, rfl, by decide +kernel, by decide +kernel⟩
theorem cal_check_all (T : TxK K mg) : C8.Cal P w K mg base 6 "check_all" (spChkA K) [] := by
  obtain ⟨f, fd, F, g⟩ := T.check_all.ex
  have c_check_pile_and_programs : C8.Cal P w K mg base 5 "check_pile_and_programs" (spChkVP K) [] := cal_check_pile_and_programs T
  have c_is_rule : C8.Cal P w K mg base 2 "is_rule" (spIsRule K) [] := cal_is_rule T
  refine cal_of F g (F.bindsN fun _ _ _ _ _ _ us hl => match us, hl with | [_, _, _], _ => rfl) (fok F scChkA (fun vs H Q E h => ?_) (fun cdv A outer s H vs Q E hr h => ?_))
  · obtain ⟨a, p, rl, xs, ps, r, rfl, _⟩ := h
    rfl
  · obtain ⟨a, p, rl, xs, ps, r, rfl, hS, fv, pg, ft, ru, rf, fin⟩ := h
    refine ⟨_, (pss_cons
    (ps_expr (C8.pe_c c_check_pile_and_programs hr (by decide) (by rfl) (pa_cons (pv 0) (pa_cons (pv 1) pa_nil)))) (pss_one
    (ps_if (pt_not (pt_val (C8.pe_c c_is_rule hr (by decide) (by rfl) (pa_cons (pv 2) (pa_cons (pe_callB call_len_seq (by rfl) T.len PySem.boot_len (pa_cons (pv 1) pa_nil)) pa_nil))))) (pss_one (ps_no)) pss_nil))), ?_⟩
    refine ⟨_, rfl, _, rfl, a, p, xs, ps, rfl, hS, fv, pg, ft, fun H1 s1 => ?_⟩
    obtain ⟨ls, p1, p2⟩ := pg.same s1
    refine ⟨_, rfl, _, rfl, p, _, rfl, .inl (SqL.of p1), rl, r, ps.length, ?_, ru.same s1, rf, fun H2 s2 => ⟨_, rfl, iteF (fin H2 (s1.trans s2))⟩⟩
    rw [List.length_map, paired_len p2]
    rfl
end
end Sk


/-! The package's machine: a step of it. -/
namespace Sk
open PySem PySem.Spec PyProof.Rows L2
/-- a method of the class at C -/
structure MethAt (K : PySem.W.Frag) (C : Addr) (m q : Str) (st : Stmt) : Prop where
  ex : ∃ f fd, FnP K m q st f fd ∧ Meth K C m f
structure TxM (K : PySem.W.Frag) (mg : Str → Option Value) (C : Addr) : Prop where
  g : mg "Machine" = some (.ref C)
  cl : Cls K C
  nP : NoAttr K C "programs"
  nR : NoAttr K C "rule"
  nS : NoAttr K C "state"
  nA : NoAttr K C "answered"
  nD : NoAttr K C "decided"
  nH : NoAttr K C "had_stale"
  init : ∃ f fd, FnP K "__init__" "Machine.__init__" s_Machine_init f fd ∧ Mk K C f
  check_hand : MethAt K C "check_hand" "Machine.check_hand" s_Machine_check_hand
  turn : MethAt K C "turn" "Machine.turn" s_Machine_turn
  answers : MethAt K C "answers" "Machine.answers" s_Machine_answers
  order : MethAt K C "order" "Machine.order" s_Machine_order
  pile : MethAt K C "pile" "Machine.pile" s_Machine_pile
  pile_values : MethAt K C "pile_values" "Machine.pile_values" s_Machine_pile_values
  is_stale : MethAt K C "is_stale" "Machine.is_stale" s_Machine_is_stale
  is_done : MethAt K C "is_done" "Machine.is_done" s_Machine_is_done
  S : TxS K mg
  T : TxT K mg
  K : TxK K mg
  len : mg "len" = none
  list : mg "list" = none
  tuple : mg "tuple" = none
  zip : mg "zip" = none
  range : mg "range" = none
theorem met_of {P : Program} {w : World} {K : PySem.W.Frag} {mg : Str → Option Value} {base : Heap} {k : Nat} {C : Addr} {m q : Str} {st : Stmt} {f : Addr} {fd : FuncData} {ps : List Str} {sp : Sp} (F : FnP K m q st f fd) (cl : Cls K C) (M : Meth K C m f) (b : Binds K fd ps []) (ok : FnOk P w K mg base CX0 k f fd ps sp) : C8.Met P w K mg base k C m sp [] :=
  ⟨f, fd, ps, [], cl, M, ok, b, .nil⟩
def spCheckHand (K : PySem.W.Frag) (C : Addr) : Sp := fun vs H Q _ => ∃ (m dx P R S An De : Addr) (b : Bool) (i : Nat) (ls : List Addr), vs = [.ref m, .int (i : Int)] ∧ H m = some (.ins C dx (mFs P R S An De b)) ∧ H P = some (.tup (ls.map V.ref)) ∧ i < ls.length ∧ Q .non H
def spTurnM (K : PySem.W.Frag) (C : Addr) : Sp := fun vs H Q _ => ∃ (L : ML) (r : Rule) (n : Nat) (s : Mach) (i : Nat) (h : Hand), vs = [.ref L.m, .int (i : Int)] ∧ MacAt K H C r L s ∧ s.hands[i]? = some h ∧ Okm r n s ∧ n ≤ 50000 ∧ r.pos ∧
  ∀ t H', MacAt K H' C r L (turn r s i).2 → Kept2 L H H' → H' t = some (.tup (turn r s i).1.row) → Q (.ref t) H'
theorem own_m {L : ML} : L.m ∈ L.own := by simp [ML.own]
theorem own_De {L : ML} : L.De ∈ L.own := by simp [ML.own]
theorem own_qa {L : ML} {i : Nat} {q : Addr} (h : L.qa[i]? = some q) : q ∈ L.own := by simp [ML.own, List.mem_of_getElem? h]
theorem step_ok {r : Rule} {n i : Nat} {s : Mach} {h : Hand} (O : Okm r n s) (hn : n ≤ 50000) (hi : s.hands[i]? = some h) : StepOk s.ps h.ph h.deeds := by
  have hm := List.mem_of_getElem? hi
  obtain ⟨b1, b2, b3⟩ := O.bnd.hands h hm
  have ln := O.bnd.len
  have fw := O.bnd.few
  refine ⟨⟨?_, ?_, ?_, ?_⟩, ?_, fun v e => ?_, fun e hp => ?_, ?_, ?_⟩
  · show s.links.length ≤ 100000
    omega
  · show s.free.length ≤ 100000
    omega
  · show s.vals.length ≤ 100000
    omega
  · show (s.hands.map Hand.ph).length ≤ 1000
    rw [List.length_map]
    have := O.few
    omega
  · rw [ph_num]
    exact O.le h hm
  · rw [ph_num] at e
    show h.ph.cell ≤ s.links.length
    have : h.ph.cell ≤ h.cell := by
      unfold Hand.ph
      rw [e]
      repeat' split
      all_goals (dsimp only; omega)
    omega
  · rw [ph_num] at e
    show 1 ≤ h.ph.top ∧ h.ph.top ≤ s.links.length
    have bs := O.base.seen i h hi e
    unfold Hand.ph at hp ⊢
    rw [e] at hp ⊢
    dsimp only at hp ⊢
    cases hs : h.seen with
    | none =>
      rw [hs] at hp
      exact absurd rfl hp
    | some p =>
      obtain ⟨t, k⟩ := p
      dsimp only
      have t0 := bs t k hs
      have t1 := b2 t k hs
      by_cases hc : h.cell = 0
      · rw [if_neg (fun z => z hc)]
        repeat' split
        all_goals (dsimp only; omega)
      · rw [if_pos hc]
        dsimp only
        omega
  · exact ln.symm
  · exact O.bnd.free
theorem set_get {α : Type} {l : List α} {i : Nat} {x : α} (h : l[i]? = some x) : l.set i x = l := by
  obtain ⟨hl, e⟩ := List.getElem?_eq_some_iff.mp h
  rw [← e, List.set_getElem_self]
theorem PgT.at_ {K : PySem.W.Frag} {H : Hp} {p : Addr} {ps : List (List Deed)} (h : PgT K H p ps) : PgAt K H p ps := by
  obtain ⟨ls, h1, h2⟩ := h
  exact ⟨ls, .inr (SqT.of h1), Paired.mono2 (fun l ds z => by obtain ⟨ts, z1, z2⟩ := z; exact ⟨ts, .inr (SqT.of z1), z2⟩) h2⟩
section
variable {P : Program} {w : World} {K : PySem.W.Frag} {mg : Str → Option Value} {base : Heap} {Cm : Addr}
theorem scCheckHand : FnScope ["self", "hand"] ["self", "hand"] (defScope s_Machine_check_hand) := ⟨rfl, rfl, rfl, by decide +kernel, rfl, by decide +kernel, by decide +kernel⟩
theorem met_check_hand (T : TxM K mg Cm) : C8.Met P w K mg base 1 Cm "check_hand" (spCheckHand K Cm) [] := by
  obtain ⟨f, fd, F, M⟩ := T.check_hand.ex
  refine met_of F T.cl M (F.bindsN fun _ _ _ _ _ _ us hl => match us, hl with | [_, _], _ => rfl) (fok F scCheckHand (fun vs H Q E h => ?_) (fun cdv A outer s H vs Q E hr h => ?_))
  · obtain ⟨m, dx, P, R, S, An, De, b, i, ls, rfl, _⟩ := h
    rfl
  · obtain ⟨m, dx, P, R, S, An, De, b, i, ls, rfl, e1, e2, hi, fin⟩ := h
    refine ⟨_, (pss_one (ps_if (pt_not (pt_chain op_le op_lt pe_int (pv 1) (pe_callB call_len_seq (by rfl) T.len PySem.boot_len (pa_cons (pe_fld (pv 0) rfl) pa_nil)))) (pss_one (ps_no)) pss_nil)), ?_⟩
    refine ⟨_, rfl, _, _, rfl, rfl, _, rfl, ite2 (fun q => ⟨_, rfl, m, Cm, dx, _, _, rfl, e1, T.cl, T.nP, f_programs, P, _, rfl, .inr (SqT.of e2), _, _, rfl, rfl, _, rfl, ite2 (fun q => ?_) (fun q => fin)⟩) (fun q => absurd (decide_eq_true (by omega)) q)⟩
    have : ¬ ((i : Int) < (((ls.map V.ref).length : Nat) : Int)) := by simpa using q
    rw [List.length_map] at this
    omega
theorem scTurnM : FnScope ["self", "hand", "number", "told", "state"] ["self", "hand"] (defScope s_Machine_turn) := ⟨rfl, rfl, rfl, by decide +kernel, rfl, by decide +kernel, by decide +kernel⟩
theorem met_turn (T : TxM K mg Cm) : C8.Met P w K mg base 6 Cm "turn" (spTurnM K Cm) [] := by
  obtain ⟨f, fd, F, M⟩ := T.turn.ex
  have m_check_hand : C8.Met P w K mg base 1 Cm "check_hand" (spCheckHand K Cm) [] := met_check_hand T
  have c_step : C8.Cal P w K mg base 5 "step" (spStep K) [] := cal_step T.S
  have c_decides : C8.Cal P w K mg base 1 "decides" (spDecides K) [] := cal_decides T.T
  have c_was_stale : C8.Cal P w K mg base 1 "was_stale" (spWasStale K) [] := cal_was_stale T.T T.S.c
  have C := T.S.c
  refine met_of F T.cl M (F.bindsN fun _ _ _ _ _ _ us hl => match us, hl with | [_, _], _ => rfl) (fok F scTurnM (fun vs H Q E h => ?_) (fun cdv A outer s0 H vs Q E hr h => ?_))
  · obtain ⟨L, r, n, s, i, h, rfl, _⟩ := h
    rfl
  · obtain ⟨L, r, n, s, i, h, rfl, M, hi, O, hn, rp, fin⟩ := h
    refine ⟨_, (pss_cons
    (ps_expr (C8.pe_mt m_check_hand hr (by decide) (pv 0) (pa_cons (pv 1) pa_nil))) (pss_cons
    (ps_set (i := 2) scTurnM.nd rfl (.inl rfl) (pe_ix ix_tup (pe_ix ix_tup (pe_ix ix_tup (pe_fld (pv 0) rfl) (pe_num (n := 5) rfl C.HANDS) (fun _ _ => rfl)) (pv 1) (fun _ _ => rfl)) (pe_num (n := 0) rfl C.NUMBER) (fun _ _ => rfl))) (pss_cons
    (ps_asg (C8.pe_c c_step hr (by decide) (by rfl) (pa_cons (pe_fld (pv 0) rfl) (pa_cons (pe_fld (pv 0) rfl) (pa_cons (pe_fld (pv 0) rfl) (pa_cons (pv 1) pa_nil))))) (pg_tup (by rfl) (pgs_cons (pg_name (i := 3) scTurnM.nd rfl (.inl rfl)) (pgs_cons (pg_name (i := 4) scTurnM.nd rfl (.inl rfl)) pgs_nil)))) (pss_cons
    (ps_fld (pv 0) (pv 4) rfl) (Evl.pss_cut
    (ps_if (pt_val (C8.pe_c c_decides hr (by decide) (by rfl) (pa_cons (pv 3) pa_nil))) (pss_one (ps_expr (pe_bm PySem.F.plainAttrs_list PySem.F.slot_list_append PySem.F.type_list_append mt_append (pe_fld (pv 0) rfl) (pa_cons (pe_tup (pa_cons (pv 1) (pa_cons (pv 2) pa_nil))) pa_nil)))) pss_nil) (Evl.pss_cut
    (ps_if (pt_cmpR op_eq (pe_ix ix_tup (pv 3) pe_int (fun _ _ => rfl)) pe_str (nomark _)) (pss_one (ps_expr (pe_bm PySem.F.plainAttrs_list PySem.F.slot_list_append PySem.F.type_list_append mt_append (pe_ix ix_list (pe_fld (pv 0) rfl) (pv 1) (fun _ _ => rfl)) (pa_cons (pe_ix ix_tup (pv 3) pe_int (fun _ _ => rfl)) pa_nil)))) pss_nil) (Evl.pss_cut
    (ps_if (pt_val (C8.pe_c c_was_stale hr (by decide) (by rfl) (pa_cons (pv 3) (pa_cons (pv 4) (pa_cons (pv 1) pa_nil))))) (pss_one (ps_fld (pv 0) pe_bl rfl)) pss_nil) (pss_one
    (ps_ret (pv 3)))))))))), ?_⟩
    obtain ⟨a, e1, st⟩ := M.ins
    have hips : s.ps.hands[i]? = some h.ph := by show (s.hands.map Hand.ph)[i]? = _; rw [List.getElem?_map, hi]; rfl
    have hid : (s.hands.map Hand.deeds)[i]? = some h.deeds := by rw [List.getElem?_map, hi]; rfl
    obtain ⟨nx, fr, v, hh, as, t, e0, en, ef, ev, eh, pr, et, ex⟩ := st.hand hips
    obtain ⟨ls, p1, p2⟩ := id M.pg
    have il := (List.getElem?_eq_some_iff.mp hi).1
    have lsl := paired_len p2
    rw [List.length_map] at lsl
    refine ⟨_, rfl, L.m, L.dx, _, rfl, e1, f_none (by decide +kernel), _, rfl, L.m, L.dx, L.P, L.R, a, L.An, L.De, s.stale, i, ls, rfl, e1, p1, by omega, ?_⟩
    refine ⟨_, rfl, L.m, _, L.dx, _, _, rfl, e1, T.cl, T.nS, f_state, a, _, 5, _, rfl, rfl, SqT.of e0, rfl, _, rfl, hh, _, (i : Int), .ref t, rfl, rfl, SqT.of eh, at_ref et, t, _, 0, _, rfl, rfl, SqT.of ex, rfl, ?_⟩
    refine ⟨_, rfl, L.m, _, L.dx, _, _, rfl, e1, T.cl, T.nS, f_state, _, rfl, L.m, _, L.dx, _, _, rfl, e1, T.cl, T.nP, f_programs, _, rfl, L.m, _, L.dx, _, _, rfl, e1, T.cl, T.nR, f_rule, _, rfl, a, L.P, L.R, s.ps, r, i, h.ph, s.hands.map Hand.deeds, h.deeds, rfl, st, M.pg.at_, M.rule, rp, hips, hid, step_ok O hn hi, fun tt H1 s1 out => ?_⟩
    have hst := step_go O.bnd.len O.base O.fit hi
    have tgo : turn r s i = go r s i h := by unfold Sk.turn; rw [hi]
    rw [hst] at out
    obtain ⟨u, b, ett, eu, eb⟩ := out
    dsimp only at eu eb
    have gout := Go.out O hi (go_kind r s i h)
    rw [tgo] at fin
    generalize hg : go r s i h = g at eu eb gout fin
    obtain ⟨stp, s'⟩ := g
    dsimp only at eu eb gout fin
    obtain ⟨g1, ⟨h', g2, g3, g4, g5, g6⟩, g7⟩ := gout
    have M1 := M.same s1
    have e11 := s1 _ _ e1
    refine ⟨tt, _, rfl, SqT.of ett, rfl, _, _, rfl, _, _, rfl, rfl, ?_⟩
    refine ⟨_, rfl, _, rfl, L.m, _, L.dx, _, rfl, e11, T.cl, T.nS, by show 6 < 1000; decide, ?_⟩
    rw [put_state]
    have M2 := M1.setIns (c := s.stale) eb
    have k2 : Kept2 L H _ := (Kept2.of s1).trans (Kept2.upd (o := .ins Cm L.dx (mFs L.P L.R b L.An L.De s.stale)) own_m)
    have kp2 : Kp H1 _ := .upd (u := .ins Cm L.dx (mFs L.P L.R b L.An L.De s.stale)) e11 rfl
    have eu2 := kp2 _ _ eu rfl
    have eb2 := eb.tups kp2.tups
    generalize upd H1 L.m (.ins Cm L.dx (mFs L.P L.R b L.An L.De s.stale)) = H2 at M2 k2 kp2 eu2 eb2 ⊢
    refine ⟨fun σ' H3 => σ' = [some (.ref L.m), some (.int (i : Int)), some (.int (h.ph.num : Int)), some (.ref u), some (.ref b)] ∧ MacP K H3 Cm r L s'.ps (s.hands.map Hand.deeds) (s.hands.map Hand.said) s'.ends s.stale ∧ Kept2 L H H3 ∧ Kp H2 H3, ?c1, ?m1⟩
    case c1 =>
      refine ⟨_, rfl, u, stp, rfl, eu2, g7, fun H3 s3 => ⟨_, rfl, ite2 (fun q => ?_) (fun q => ?_)⟩⟩
      · have M3 := M2.same s3
        obtain ⟨a3, e3, _⟩ := M3.ins
        obtain ⟨es, d1, d2⟩ := M3.dec
        refine ⟨_, rfl, L.m, _, L.dx, _, _, rfl, e3, T.cl, T.nD, f_decided, .inl ⟨rfl, _, SqL.of d1⟩, _, rfl, _, rfl, by show 2 ≤ sizeLine; decide, fun tp np => ?_⟩
        have s4 := same_upd (o := .tup [V.int (i : Int), .int (h.ph.num : Int)]) np
        have M4 := M3.same s4
        have len : es.length = s.ends.length := paired_len d2
        refine ⟨L.De, _, _, rfl, rfl, s4 _ _ d1, by rw [List.length_map, len, sizeLine_eq]; have := O.bnd.few.2.2.1; omega, ?_⟩
        have M5 := M4.addEnd (p := (i, h.ph.num)) (s4 _ _ d1) (Paired.mono2 (fun _ _ z => s4 _ _ z) d2) upd_same
        refine ⟨rfl, ?_, (k2.trans (.of (s3.trans s4))).trans (Kept2.upd own_De), (Kp.of (s3.trans s4)).trans (.upd (s4 _ _ d1) rfl)⟩
        rw [g1, if_pos q]
        rw [ph_num] at M5 ⊢
        exact M5
      · refine ⟨rfl, ?_, k2.trans (.of s3), .of s3⟩
        rw [g1, if_neg q, List.append_nil]
        exact M2.same s3
    case m1 =>
      rintro σ' H3 ⟨rfl, M3, k3, kp3⟩
      have eu3 := kp3 _ _ eu2 rfl
      have eu3' := eu3
      rw [row_cons] at eu3'
      refine ⟨fun σ' H4 => σ' = [some (.ref L.m), some (.int (i : Int)), some (.int (h.ph.num : Int)), some (.ref u), some (.ref b)] ∧ MacP K H4 Cm r L s'.ps (s.hands.map Hand.deeds) ((s.hands.map Hand.said).set i (h.said ++ stp.say)) s'.ends s.stale ∧ Kept2 L H H4 ∧ Kp H2 H4, ?c2, ?m2⟩
      case c2 =>
        refine ⟨_, rfl, u, _, 0, .str stp.word, rfl, rfl, SqT.of eu3', atI_nat (j := 0) rfl, rfl, _, rfl, ?_⟩
        have hsd : (s.hands.map Hand.said)[i]? = some h.said := by rw [List.getElem?_map, hi]; rfl
        obtain ⟨q, hq, _⟩ := paired_get M3.said hsd
        cases stp with
        | ends v =>
          refine iteT ?_
          obtain ⟨a3, e3, _⟩ := M3.ins
          obtain ⟨eq, M4⟩ := M3.say (v := v) hq hsd
          refine ⟨_, rfl, L.m, _, L.dx, _, _, rfl, e3, T.cl, T.nA, f_answered, _, rfl, L.An, _, (i : Int), .ref q, rfl, rfl, SqL.of M3.ans, at_ref hq, .inl ⟨rfl, _, SqL.of eq⟩, _, rfl, u, _, 1, v, rfl, rfl, SqT.of eu3, atI_nat (j := 1) rfl, q, _, _, rfl, rfl, eq, ?_, rfl, M4, k3.trans (Kept2.upd (own_qa hq)), kp3.trans (.upd eq rfl)⟩
          rw [sizeLine_eq]
          have := O.bnd.few.2.2.2 h (List.mem_of_getElem? hi)
          omega
        | rests => exact iteF ⟨rfl, by rw [show h.said ++ Stp.say .rests = h.said from List.append_nil _, set_get hsd]; exact M3, k3, kp3⟩
        | misses => exact iteF ⟨rfl, by rw [show h.said ++ Stp.say .misses = h.said from List.append_nil _, set_get hsd]; exact M3, k3, kp3⟩
        | takes c => exact iteF ⟨rfl, by rw [show h.said ++ Stp.say (.takes c) = h.said from List.append_nil _, set_get hsd]; exact M3, k3, kp3⟩
        | reads c => exact iteF ⟨rfl, by rw [show h.said ++ Stp.say (.reads c) = h.said from List.append_nil _, set_get hsd]; exact M3, k3, kp3⟩
        | links c => exact iteF ⟨rfl, by rw [show h.said ++ Stp.say (.links c) = h.said from List.append_nil _, set_get hsd]; exact M3, k3, kp3⟩
        | marks c => exact iteF ⟨rfl, by rw [show h.said ++ Stp.say (.marks c) = h.said from List.append_nil _, set_get hsd]; exact M3, k3, kp3⟩
        | looks c => exact iteF ⟨rfl, by rw [show h.said ++ Stp.say (.looks c) = h.said from List.append_nil _, set_get hsd]; exact M3, k3, kp3⟩
        | follows c => exact iteF ⟨rfl, by rw [show h.said ++ Stp.say (.follows c) = h.said from List.append_nil _, set_get hsd]; exact M3, k3, kp3⟩
        | exchanges c => exact iteF ⟨rfl, by rw [show h.said ++ Stp.say (.exchanges c) = h.said from List.append_nil _, set_get hsd]; exact M3, k3, kp3⟩
      case m2 =>
        rintro σ' H4 ⟨rfl, M4, k4, kp4⟩
        have eu4 := kp4 _ _ eu2 rfl
        have eb4 := eb2.tups kp4.tups
        have ihd : s'.ps.hands[i]? = some h'.ph := by
          show (s'.hands.map Hand.ph)[i]? = _
          rw [g2, List.getElem?_map, List.getElem?_set_self il]
          rfl
        have eds : s'.hands.map Hand.deeds = s.hands.map Hand.deeds := by
          rw [g2, List.map_set, g3]
          exact set_get hid
        have esd : s'.hands.map Hand.said = (s.hands.map Hand.said).set i (h.said ++ stp.say) := by
          rw [g2, List.map_set, g4]
        rw [← esd, ← eds] at M4
        refine ⟨fun σ' H5 => σ' = [some (.ref L.m), some (.int (i : Int)), some (.int (h.ph.num : Int)), some (.ref u), some (.ref b)] ∧ MacAt K H5 Cm r L s' ∧ Kept2 L H H5 ∧ Kp H2 H5, ?c3, ?m3⟩
        case c3 =>
          refine ⟨_, rfl, _, rfl, _, rfl, u, b, stp, s'.ps, i, h'.ph, rfl, eu4, eb4, ihd, g6, _, rfl, ite2 (fun q => ?_) (fun q => ?_)⟩
          · obtain ⟨a4, e4, st4⟩ := M4.ins
            refine ⟨_, rfl, L.m, _, L.dx, _, rfl, e4, T.cl, T.nH, by show 6 < 1000; decide, ?_⟩
            rw [put_stale]
            have M5 := M4.setIns (c := true) st4
            refine ⟨rfl, ?_, k4.trans (Kept2.upd own_m), kp4.trans (.upd e4 rfl)⟩
            have es : s'.stale = true := by rw [g5, q, Bool.or_true]
            unfold MacAt
            rw [es]
            exact M5
          · refine ⟨rfl, ?_, k4, kp4⟩
            have es : s'.stale = s.stale := by rw [g5, Bool.eq_false_iff.mpr q, Bool.or_false]
            unfold MacAt
            rw [es]
            exact M4
        case m3 =>
          rintro σ' H5 ⟨rfl, M5, k5, kp5⟩
          exact ⟨_, rfl, fin u H5 M5 k5 (kp5 _ _ eu2 rfl)⟩
end
end Sk


/-! The package's machine made. -/
namespace Sk
open PySem PySem.Spec PyProof.Rows L2
/-- tuple(x) -/
def rTupOf (K : PySem.W.Frag) : List V → Hp → VK → Prop := fun xs H Q => ∃ p ys, xs = [.ref p] ∧ ((SqL K H p ys ∧ ∀ l, H l = none → Q (.ref l) (upd H l (.tup ys))) ∨ (SqT K H p ys ∧ Q (.ref p) H))
theorem call_tupK {X : Cx} : CallR X (.type "tuple") (rTupOf X.K) := call_tuple_of
/-- all of a machine's own is new -/
def Born (F : Hp) (L : ML) : Prop := ∀ y ∈ L.An :: L.own, F y = none
def spInitM (K : PySem.W.Frag) (Cm : Addr) : Sp := fun vs H Q _ => ∃ (x dx a p rl : Addr) (F : Hp) (xs : List Int) (ps : List (List Deed)) (r : Rule), vs = [.ref x, .ref a, .ref p, .ref rl] ∧ H = upd (upd F dx (.own x)) x (.ins Cm dx []) ∧ F x = none ∧ F dx = none ∧ dx ≠ x ∧
  SqL K F a (xs.map V.int) ∧ FitV xs ∧ Progs K F p ps ∧ Fit ps ∧ RuleAt F rl r ∧ r.fit ps.length ∧ ∀ (L : ML) (H' : Hp), L.m = x → MacAt K H' Cm r L (Mach.begun xs ps) → Same F H' → Born F L → Q .non H'
theorem sameN {F H : Hp} {x : Addr} {o : HO} (s : Same F H) (n : F x = none) : Same F (upd H x o) := fun y u h => by
  rw [upd_ne (ne_of_none h n)]
  exact s _ _ h
theorem nd_refs {qs : List Addr} {H : Hp} (q : Addr) (nd : qs.Nodup) (h : ∀ y ∈ qs, ∃ o, H y = some o) (n : H q = none) : (qs ++ [q]).Nodup := by
  rw [List.nodup_append]
  refine ⟨nd, by simp, fun a ha b hb => ?_⟩
  rw [List.mem_singleton.mp hb]
  obtain ⟨o, e⟩ := h a ha
  exact ne_of_none e n
theorem begun_deeds (ps : List (List Deed)) : (ps.map Hand.new).map Hand.deeds = ps := by
  rw [List.map_map]
  exact List.map_id'' (fun _ => rfl) ps
theorem begun_said (ps : List (List Deed)) : (ps.map Hand.new).map Hand.said = List.replicate ps.length [] := by
  rw [List.map_map, List.eq_replicate_iff]
  refine ⟨by rw [List.length_map], fun x hx => ?_⟩
  obtain ⟨ds, _, e⟩ := List.mem_map.mp hx
  exact e.symm
section
variable {P : Program} {w : World} {K : PySem.W.Frag} {mg : Str → Option Value} {base : Heap} {Cm : Addr}
theorem scInitM : FnScope ["self", "values", "programs", "rule", "deeds", "_"] ["self", "values", "programs", "rule"] (defScope s_Machine_init) := ⟨rfl, rfl, rfl, by decide +kernel, rfl, by decide +kernel, by decide +kernel⟩
theorem mak_Machine (T : TxM K mg Cm) : C8.Mak P w K mg base 7 "Machine" Cm (spInitM K Cm) [] := by
  obtain ⟨f, fd, F, M⟩ := T.init
  have c_check_all : C8.Cal P w K mg base 6 "check_all" (spChkA K) [] := cal_check_all T.K
  have c_first_state : C8.Cal P w K mg base 2 "first_state" (spFirstState K) [] := cal_first_state T.S
  have C := T.S.c
  refine ⟨f, fd, _, [], M, (fok F scInitM (fun vs H Q E h => ?_) (fun cdv A outer s0 H vs Q E hr h => ?_)), T.g, (F.bindsN fun _ _ _ _ _ _ us hl => match us, hl with | [_, _, _, _], _ => rfl), .nil⟩
  · obtain ⟨x, dx, a, p, rl, G, xs, ps, r, rfl, _⟩ := h
    rfl
  · obtain ⟨x, dx, a, p, rl, G, xs, ps, r, rfl, rfl, nx, nd, ne, hS, fv, pg, ft, ru, rf, fin⟩ := h
    refine ⟨_, (pss_cons
    (ps_expr (C8.pe_c c_check_all hr (by decide) (by rfl) (pa_cons (pv 1) (pa_cons (pv 2) (pa_cons (pv 3) pa_nil))))) (pss_cons
    (ps_fld (pv 0) (pe_callTy call_tuple_of (by rfl) T.tuple (by decide +kernel) (pa_cons (pe_lc (own := [("deeds", 4)]) (g := gName 4) (tt := tYes) rfl scInitM.nd (pi_list (pv 2)) (blkOk_by (N := (["self", "values", "programs", "rule", "deeds", "_"])) (sc := defScope s_Machine_init) (by decide +kernel)) (fun _ _ _ _ _ => pg_name (i := 4) scInitM.nd rfl (Or.inl rfl)) (fun _ _ _ _ _ => pts_nil) (fun _ _ _ _ _ => (pe_callTy (r := rTupOf K) call_tupK (by rfl) T.tuple (by decide +kernel) (pa_cons (pv 4) pa_nil)))) pa_nil)) rfl) (pss_cons
    (ps_fld (pv 0) (pv 3) rfl) (pss_cons
    (ps_fld (pv 0) (C8.pe_c c_first_state hr (by decide) (by rfl) (pa_cons (pv 1) (pa_cons (pe_callB call_len_seq (by rfl) T.len PySem.boot_len (pa_cons (pv 2) pa_nil)) pa_nil))) rfl) (pss_cons
    (ps_fld (pv 0) (pe_lc (own := [("_", 5)]) (g := gName 5) (tt := tYes) rfl scInitM.nd (pi_list (pv 2)) (blkOk_by (N := (["self", "values", "programs", "rule", "deeds", "_"])) (sc := defScope s_Machine_init) (by decide +kernel)) (fun _ _ _ _ _ => pg_name (i := 5) scInitM.nd rfl (Or.inl rfl)) (fun _ _ _ _ _ => pts_nil) (fun _ _ _ _ _ => (pe_lst pa_nil))) rfl) (pss_cons
    (ps_fld (pv 0) (pe_lst pa_nil) rfl) (pss_one
    (ps_fld (pv 0) pe_bl rfl)))))))), ?_⟩
    have s0 : Same G (upd (upd G dx (.own x)) x (.ins Cm dx [])) := fun b o e => by
      rw [upd_ne (ne_of_none e nx), upd_ne (ne_of_none e nd)]
      exact e
    have e0 : (upd (upd G dx (.own x)) x (.ins Cm dx [])) x = some (.ins Cm dx []) := upd_same
    generalize upd (upd G dx (.own x)) x (.ins Cm dx []) = H0 at s0 e0 ⊢
    refine ⟨_, rfl, _, rfl, _, rfl, a, p, rl, xs, ps, r, rfl, s0.seq hS, fv, pg.same s0, ft, ru.same s0, rf, fun H1 s1 => ?_⟩
    have s01 := s0.trans s1
    obtain ⟨ls, p1, p2⟩ := pg.same s01
    have ll := paired_len p2
    -- self.programs
    refine ⟨_, rfl, p, rfl, ⟨_, SqL.of p1⟩, fun D nD => ?_⟩
    refine lc_list (K := K) (a := p) (xs := ls.map V.ref) (fun i H2 => Same H1 H2 ∧ ∃ ts : List Addr, H2 D = some (.lst (ts.map V.ref)) ∧ Paired (DsT K H2) ts (ps.take i)) ⟨same_upd nD, [], upd_same, .nil⟩ (fun i H2 _ z => SqL.of (z.1 _ _ p1)) ?turn ?rest
    case turn =>
      rintro i y H2 hi ⟨s2, ts, eD, pr⟩
      have hil : i < ls.length := by
        have := (List.getElem?_eq_some_iff.mp hi).1
        rw [List.length_map] at this
        exact this
      have hip : i < ps.length := by omega
      obtain ⟨l, el, dts, d1, d2⟩ := paired_get p2 (List.getElem?_eq_getElem hip)
      have ey : y = .ref l := by
        rw [List.getElem?_map, el] at hi
        exact (Option.some.inj hi).symm
      subst ey
      have tl := paired_len pr
      rw [List.length_take] at tl
      refine ⟨rfl, tyes ⟨_, rfl, l, _, rfl, .inl ⟨SqL.of (s2 _ _ d1), fun q nq => ⟨_, (same_upd nq) _ _ eD, ?_, ?_, ts ++ [q], ?_, ?_⟩⟩⟩⟩
      · rw [List.length_map, sizeLine_eq]
        have := ft.2.1
        omega
      · intro c o e
        have nc : c ≠ D := ne_of_none e nD
        rw [upd_ne nc]
        exact (same_upd nq) _ _ (s2 _ _ e)
      · rw [upd_same, List.map_append]
        rfl
      · have k1 : Kp H2 (upd (upd H2 q (.tup (dts.map V.ref))) D (.lst (ts.map V.ref ++ [V.ref q]))) := (Kp.of (same_upd nq)).trans (.upd ((same_upd nq) _ _ eD) rfl)
        have k2 : Kp (upd H2 q (.tup (dts.map V.ref))) (upd (upd H2 q (.tup (dts.map V.ref))) D (.lst (ts.map V.ref ++ [V.ref q]))) := .upd ((same_upd nq) _ _ eD) rfl
        rw [List.take_add_one, List.getElem?_eq_getElem hip]
        refine Paired.app (Paired.mono2 (fun _ _ z => z.kp k1) pr) (.cons ⟨dts, k2 _ _ upd_same rfl, (d2.kp (Kp.of s2)).kp k1⟩ .nil)
    case rest =>
      rintro H2 ⟨s2, ts, eD, pr⟩
      have fulls : ps.take (ls.map V.ref).length = ps := List.take_of_length_le (by rw [List.length_map]; omega)
      rw [fulls] at pr
      refine ⟨D, _, rfl, .inl ⟨SqL.of eD, fun PT nPT => ?_⟩⟩
      have s3 := same_upd (o := .tup (ts.map V.ref)) nPT
      have g3 : Same G _ := (s01.trans s2).trans s3
      have e3 := s3 _ _ (s2 _ _ (s1 _ _ e0))
      have pt : PgT K (upd H2 PT (.tup (ts.map V.ref))) PT ps := ⟨ts, upd_same, Paired.mono2 (fun _ _ z => z.kp (.of s3)) pr⟩
      generalize upd H2 PT (.tup (ts.map V.ref)) = H3 at s3 g3 e3 pt ⊢
      refine ⟨_, rfl, x, Cm, dx, [], rfl, e3, T.cl, T.nP, by show 0 < 1000; decide, ?_⟩
      have k4 : Kp H3 (upd H3 x (.ins Cm dx (putF "programs" (.ref PT) []))) := .upd e3 rfl
      have g4 : Same G (upd H3 x (.ins Cm dx (putF "programs" (.ref PT) []))) := sameN g3 nx
      have e4 : (upd H3 x (.ins Cm dx (putF "programs" (.ref PT) []))) x = some (.ins Cm dx [("programs", V.ref PT)]) := upd_same
      have pt4 := pt.kp k4
      generalize upd H3 x (.ins Cm dx (putF "programs" (.ref PT) [])) = H4 at k4 g4 e4 pt4 ⊢
      refine ⟨_, rfl, _, rfl, x, Cm, dx, _, rfl, e4, T.cl, T.nR, by show 1 < 1000; decide, ?_⟩
      have k5 : Kp H4 (upd H4 x (.ins Cm dx (putF "rule" (.ref rl) [("programs", V.ref PT)]))) := .upd e4 rfl
      have g5 : Same G (upd H4 x (.ins Cm dx (putF "rule" (.ref rl) [("programs", V.ref PT)]))) := sameN g4 nx
      have e5 : (upd H4 x (.ins Cm dx (putF "rule" (.ref rl) [("programs", V.ref PT)]))) x = some (.ins Cm dx [("programs", V.ref PT), ("rule", V.ref rl)]) := by
        rw [upd_same, putN (by decide +kernel)]
        rfl
      have pt5 := pt4.kp k5
      generalize upd H4 x (.ins Cm dx (putF "rule" (.ref rl) [("programs", V.ref PT)])) = H5 at k5 g5 e5 pt5 ⊢
      obtain ⟨ls5, p5, q5⟩ := pg.same g5
      have ll5 := paired_len q5
      refine ⟨_, rfl, _, rfl, p, _, rfl, .inl (SqL.of p5), a, xs, ps.length, by rw [List.length_map, ll5]; rfl, g5.seq hS, by have := fv.1; omega, ft.1, by have := ft.2.1; omega, fun S H6 s6 st6 => ?_⟩
      have e6 := s6 _ _ e5
      refine ⟨_, rfl, x, Cm, dx, _, rfl, e6, T.cl, T.nS, by show 2 < 1000; decide, ?_⟩
      have k7 : Kp H6 (upd H6 x (.ins Cm dx (putF "state" (.ref S) [("programs", V.ref PT), ("rule", V.ref rl)]))) := .upd e6 rfl
      have g7 : Same G (upd H6 x (.ins Cm dx (putF "state" (.ref S) [("programs", V.ref PT), ("rule", V.ref rl)]))) := sameN (g5.trans s6) nx
      have e7 : (upd H6 x (.ins Cm dx (putF "state" (.ref S) [("programs", V.ref PT), ("rule", V.ref rl)]))) x = some (.ins Cm dx [("programs", V.ref PT), ("rule", V.ref rl), ("state", V.ref S)]) := by
        rw [upd_same, putN (by decide +kernel), putN (by decide +kernel)]
        rfl
      have pt7 := (pt5.kp (.of s6)).kp k7
      have st7 := st6.tups k7.tups
      generalize upd H6 x (.ins Cm dx (putF "state" (.ref S) [("programs", V.ref PT), ("rule", V.ref rl)])) = H7 at k7 g7 e7 pt7 st7 ⊢
      obtain ⟨ls7, p7, q7⟩ := pg.same g7
      have ll7 := paired_len q7
      refine ⟨_, rfl, p, rfl, ⟨_, SqL.of p7⟩, fun D2 nD2 => ?_⟩
      refine lc_list (K := K) (a := p) (xs := ls7.map V.ref) (fun i H8 => Same H7 H8 ∧ ∃ qs : List Addr, H8 D2 = some (.lst (qs.map V.ref)) ∧ qs.length = i ∧ Paired (fun q l => H8 q = some (.lst l)) qs (List.replicate i []) ∧ (∀ q ∈ qs, H7 q = none ∧ q ≠ D2) ∧ qs.Nodup) ⟨same_upd nD2, [], upd_same, rfl, .nil, fun q hq => (by cases hq), .nil⟩ (fun i H8 _ z => SqL.of (z.1 _ _ p7)) ?turn2 ?rest2
      case turn2 =>
        rintro i y H8 hi ⟨s8, qs, eD8, ql, pq, hq, ndq⟩
        refine ⟨rfl, tyes ⟨Nat.zero_le _, fun q nq => ⟨_, (same_upd nq) _ _ eD8, ?_, ?_, qs ++ [q], ?_, ?_, ?_, ?_, ?_⟩⟩⟩
        · have := (List.getElem?_eq_some_iff.mp hi).1
          rw [List.length_map] at this
          rw [List.length_map, ql, sizeLine_eq]
          have := ft.2.1
          omega
        · intro c o e
          rw [upd_ne (ne_of_none e nD2)]
          exact (same_upd nq) _ _ (s8 _ _ e)
        · rw [upd_same, List.map_append]
          rfl
        · rw [List.length_append, ql]
          rfl
        · have nDq : q ≠ D2 := (ne_of_none eD8 nq).symm
          have em : D2 ∉ qs := fun z => (hq D2 z).2 rfl
          rw [show List.replicate (i + 1) ([] : List V) = List.replicate i [] ++ [[]] from List.replicate_succ']
          refine Paired.app (paired_upd em (paired_upd (fun z => ?_) pq)) (.cons (by rw [upd_ne nDq]; exact upd_same) .nil)
          obtain ⟨l, e⟩ := paired_mem pq z
          rw [nq] at e
          cases e
        · intro z hz
          rcases List.mem_append.mp hz with q1 | q1
          · exact hq z q1
          · rw [List.mem_singleton.mp q1]
            exact ⟨s8.free nq, (ne_of_none eD8 nq).symm⟩
        · exact nd_refs q ndq (fun z hz => by obtain ⟨l, e⟩ := paired_mem pq hz; exact ⟨_, e⟩) nq
      case rest2 =>
        rintro H8 ⟨s8, qs, eD8, ql, pq, hq, ndq⟩
        rw [List.length_map, ll7] at ql pq
        have e8 := s8 _ _ e7
        refine ⟨_, rfl, x, Cm, dx, _, rfl, e8, T.cl, T.nA, by show 3 < 1000; decide, ?_⟩
        have k9 : Kp H8 (upd H8 x (.ins Cm dx (putF "answered" (.ref D2) [("programs", V.ref PT), ("rule", V.ref rl), ("state", V.ref S)]))) := .upd e8 rfl
        have g9 : Same G (upd H8 x (.ins Cm dx (putF "answered" (.ref D2) [("programs", V.ref PT), ("rule", V.ref rl), ("state", V.ref S)]))) := sameN (g7.trans s8) nx
        have e9 : (upd H8 x (.ins Cm dx (putF "answered" (.ref D2) [("programs", V.ref PT), ("rule", V.ref rl), ("state", V.ref S)]))) x = some (.ins Cm dx [("programs", V.ref PT), ("rule", V.ref rl), ("state", V.ref S), ("answered", V.ref D2)]) := by
          rw [upd_same, putN (by decide +kernel), putN (by decide +kernel), putN (by decide +kernel)]
          rfl
        have n8 : ∀ y l, H8 y = some (.lst l) → (upd H8 x (.ins Cm dx (putF "answered" (.ref D2) [("programs", V.ref PT), ("rule", V.ref rl), ("state", V.ref S)]))) y = some (.lst l) := fun y l e => by
          rw [upd_ne (ne_of e e8 (by intro z; cases z))]
          exact e
        have pt9 := (pt7.kp (.of s8)).kp k9
        have st9 := (st7.same s8).tups k9.tups
        have xq : x ∉ qs := fun z => by
          obtain ⟨l, e⟩ := paired_mem pq z
          rw [e8] at e
          cases e
        have xD : x ≠ D2 := fun z => by
          rw [z, eD8] at e8
          cases e8
        have pq9 := paired_upd (o := .ins Cm dx (putF "answered" (.ref D2) [("programs", V.ref PT), ("rule", V.ref rl), ("state", V.ref S)])) xq pq
        have eD9 := n8 _ _ eD8
        generalize upd H8 x (.ins Cm dx (putF "answered" (.ref D2) [("programs", V.ref PT), ("rule", V.ref rl), ("state", V.ref S)])) = H9 at k9 g9 e9 n8 pt9 st9 pq9 eD9 ⊢
        refine ⟨Nat.zero_le _, fun De nDe => ⟨_, rfl, x, Cm, dx, _, rfl, (same_upd nDe) _ _ e9, T.cl, T.nD, by show 4 < 1000; decide, ?_⟩⟩
        have sD := same_upd (o := .lst ([] : List V)) nDe
        have xDe : x ≠ De := ne_of_none e9 nDe
        have DDe : D2 ≠ De := ne_of_none eD9 nDe
        have qDe : De ∉ qs := fun z => by
          obtain ⟨l, e⟩ := paired_mem pq9 z
          rw [nDe] at e
          cases e
        have gDe := g9.free nDe
        have pq10 := paired_upd (o := .lst ([] : List V)) qDe pq9
        have e10 := sD _ _ e9
        have eDe : (upd H9 De (.lst ([] : List V))) De = some (.lst []) := upd_same
        have eD10 := sD _ _ eD9
        have pt10 := pt9.kp (.of sD)
        have st10 := st9.same sD
        have g10 := g9.trans sD
        generalize upd H9 De (.lst ([] : List V)) = H10 at sD pq10 e10 eDe eD10 pt10 st10 g10 ⊢
        have k11 : Kp H10 (upd H10 x (.ins Cm dx (putF "decided" (.ref De) [("programs", V.ref PT), ("rule", V.ref rl), ("state", V.ref S), ("answered", V.ref D2)]))) := .upd e10 rfl
        have e11 : (upd H10 x (.ins Cm dx (putF "decided" (.ref De) [("programs", V.ref PT), ("rule", V.ref rl), ("state", V.ref S), ("answered", V.ref D2)]))) x = some (.ins Cm dx [("programs", V.ref PT), ("rule", V.ref rl), ("state", V.ref S), ("answered", V.ref D2), ("decided", V.ref De)]) := by
          rw [upd_same, putN (by decide +kernel), putN (by decide +kernel), putN (by decide +kernel), putN (by decide +kernel)]
          rfl
        refine ⟨_, rfl, x, Cm, dx, _, rfl, e11, T.cl, T.nH, by show 5 < 1000; decide, ?_⟩
        rw [upd_upd]
        have efs : putF "had_stale" (.bl false) [("programs", V.ref PT), ("rule", V.ref rl), ("state", V.ref S), ("answered", V.ref D2), ("decided", V.ref De)] = mFs PT rl S D2 De false := by
          rw [putN (by decide +kernel), putN (by decide +kernel), putN (by decide +kernel), putN (by decide +kernel), putN (by decide +kernel)]
          rfl
        rw [efs]
        have k12 : Kp H10 (upd H10 x (.ins Cm dx (mFs PT rl S D2 De false))) := .upd e10 rfl
        refine fin ⟨x, dx, PT, rl, D2, De, qs⟩ _ rfl ?_ (sameN g10 nx) ?_
        · unfold MacAt
          refine ⟨⟨S, upd_same, ?_⟩, ?_, (ru.same g10).tups k12.tups, ?_, ?_, ⟨[], ?_, .nil⟩, ?_⟩
          · rw [begun_ps]
            exact st10.tups k12.tups
          · show PgT K _ PT ((ps.map Hand.new).map Hand.deeds)
            rw [begun_deeds]
            exact pt10.kp k12
          · rw [upd_ne (Ne.symm xD)]
            exact eD10
          · show Paired _ qs ((ps.map Hand.new).map Hand.said)
            rw [begun_said]
            exact paired_upd xq pq10
          · rw [upd_ne (Ne.symm xDe)]
            exact eDe
          · show (D2 :: x :: De :: qs).Nodup
            simp only [List.nodup_cons, List.mem_cons, not_or]
            exact ⟨⟨Ne.symm xD, DDe, fun z => (hq D2 z).2 rfl⟩, ⟨xDe, xq⟩, qDe, ndq⟩
        · intro y hy
          rcases List.mem_cons.mp hy with z | hy
          · exact z ▸ g7.free nD2
          · rcases List.mem_cons.mp hy with z | hy
            · exact z ▸ nx
            · rcases List.mem_cons.mp hy with z | hy
              · exact z ▸ gDe
              · exact g7.free (hq y hy).1
end
end Sk


/-! What the package's machine is asked. -/
namespace Sk
open PySem PySem.Spec PyProof.Rows L2
def spAnswers (K : PySem.W.Frag) (Cm : Addr) : Sp := fun vs H Q _ => ∃ (L : ML) (r : Rule) (s : Mach) (i : Nat) (h : Hand), vs = [.ref L.m, .int (i : Int)] ∧ MacAt K H Cm r L s ∧ s.hands[i]? = some h ∧ ∀ D H', Same H H' → H D = none → H' D = some (.lst h.said) → Q (.ref D) H'
def EndsAt (H : Hp) (D : Addr) (es : List (Nat × Nat)) : Prop := ∃ ts : List Addr, H D = some (.lst (ts.map V.ref)) ∧ Paired (PairAt H) ts es
def spOrder (K : PySem.W.Frag) (Cm : Addr) : Sp := fun vs H Q _ => ∃ (L : ML) (r : Rule) (s : Mach), vs = [.ref L.m] ∧ MacAt K H Cm r L s ∧ ∀ D H', Same H H' → H D = none → EndsAt H' D s.ends → Q (.ref D) H'
def spIsStale (K : PySem.W.Frag) (Cm : Addr) : Sp := fun vs H Q _ => ∃ (L : ML) (r : Rule) (s : Mach), vs = [.ref L.m] ∧ MacAt K H Cm r L s ∧ Q (.bl s.stale) H
def spIsDone (K : PySem.W.Frag) (Cm : Addr) : Sp := fun vs H Q _ => ∃ (L : ML) (r : Rule) (s : Mach), vs = [.ref L.m] ∧ MacAt K H Cm r L s ∧ ∀ H', Same H H' → Q (.bl s.done) H'
def spPileM (K : PySem.W.Frag) (Cm : Addr) : Sp := fun vs H Q _ => ∃ (L : ML) (r : Rule) (n : Nat) (s : Mach), vs = [.ref L.m] ∧ MacAt K H Cm r L s ∧ Bnd n s ∧ n ≤ 50000 ∧ ∀ D H', Same H H' → H D = none → H' D = some (.lst (vN s.pile)) → Q (.ref D) H'
/-- the pile's values -/
def Mach.worth (s : Mach) : List Int := s.pile.map (valAt s.vals)
def spPileV (K : PySem.W.Frag) (Cm : Addr) : Sp := fun vs H Q _ => ∃ (L : ML) (r : Rule) (n : Nat) (s : Mach), vs = [.ref L.m] ∧ MacAt K H Cm r L s ∧ Bnd n s ∧ n ≤ 50000 ∧ ∀ D H', Same H H' → H D = none → H' D = some (.lst (s.worth.map V.int)) → Q (.ref D) H'
section
variable {P : Program} {w : World} {K : PySem.W.Frag} {mg : Str → Option Value} {base : Heap} {Cm : Addr}
theorem scAnswersM : FnScope ["self", "hand"] ["self", "hand"] (defScope s_Machine_answers) := ⟨rfl, rfl, rfl, by decide +kernel, rfl, by decide +kernel, by decide +kernel⟩
theorem met_answers (T : TxM K mg Cm) : C8.Met P w K mg base 2 Cm "answers" (spAnswers K Cm) [] := by
  obtain ⟨f, fd, F, M⟩ := T.answers.ex
  have m_check_hand : C8.Met P w K mg base 1 Cm "check_hand" (spCheckHand K Cm) [] := met_check_hand T
  refine met_of F T.cl M (F.bindsN fun _ _ _ _ _ _ us hl => match us, hl with | [_, _], _ => rfl) (fok F scAnswersM (fun vs H Q E h => ?_) (fun cdv A outer s0 H vs Q E hr h => ?_))
  · obtain ⟨L, r, s, i, h, rfl, _⟩ := h
    rfl
  · obtain ⟨L, r, s, i, h, rfl, M, hi, fin⟩ := h
    refine ⟨_, (pss_cons
    (ps_expr (C8.pe_mt m_check_hand hr (by decide) (pv 0) (pa_cons (pv 1) pa_nil))) (pss_one
    (ps_ret (pe_callTy call_list_of (by rfl) T.list (by decide +kernel) (pa_cons (pe_ix ix_list (pe_fld (pv 0) rfl) (pv 1) (fun _ _ => rfl)) pa_nil))))), ?_⟩
    obtain ⟨a, e1, st⟩ := M.ins
    obtain ⟨ls, p1, p2⟩ := id M.pg
    have lsl := paired_len p2
    rw [List.length_map] at lsl
    have il := (List.getElem?_eq_some_iff.mp hi).1
    have hsd : (s.hands.map Hand.said)[i]? = some h.said := by rw [List.getElem?_map, hi]; rfl
    obtain ⟨q, hq, eq⟩ := paired_get M.said hsd
    refine ⟨_, rfl, L.m, L.dx, _, rfl, e1, f_none (by decide +kernel), _, rfl, L.m, L.dx, L.P, L.R, a, L.An, L.De, s.stale, i, ls, rfl, e1, p1, by omega, ?_⟩
    exact ⟨_, rfl, L.m, _, L.dx, _, _, rfl, e1, T.cl, T.nA, f_answered, _, rfl, L.An, _, (i : Int), .ref q, rfl, rfl, SqL.of M.ans, at_ref hq, q, _, rfl, .inl (SqL.of eq), fun D nD => fin D _ (same_upd nD) nD upd_same⟩
theorem scOrderM : FnScope ["self"] ["self"] (defScope s_Machine_order) := ⟨rfl, rfl, rfl, by decide +kernel, rfl, by decide +kernel, by decide +kernel⟩
theorem met_order (T : TxM K mg Cm) : C8.Met P w K mg base 1 Cm "order" (spOrder K Cm) [] := by
  obtain ⟨f, fd, F, M⟩ := T.order.ex
  refine met_of F T.cl M (F.bindsN fun _ _ _ _ _ _ us hl => match us, hl with | [_], _ => rfl) (fok F scOrderM (fun vs H Q E h => ?_) (fun cdv A outer s0 H vs Q E hr h => ?_))
  · obtain ⟨L, r, s, rfl, _⟩ := h
    rfl
  · obtain ⟨L, r, s, rfl, M, fin⟩ := h
    refine ⟨_, (pss_one (ps_ret (pe_callTy call_list_of (by rfl) T.list (by decide +kernel) (pa_cons (pe_fld (pv 0) rfl) pa_nil)))), ?_⟩
    obtain ⟨a, e1, st⟩ := M.ins
    obtain ⟨ts, d1, d2⟩ := M.dec
    exact ⟨_, rfl, L.m, _, L.dx, _, _, rfl, e1, T.cl, T.nD, f_decided, L.De, _, rfl, .inl (SqL.of d1), fun D nD => fin D _ (same_upd nD) nD ⟨ts, upd_same, Paired.mono2 (fun _ _ z => same_upd nD _ _ z) d2⟩⟩
theorem scIsStaleM : FnScope ["self"] ["self"] (defScope s_Machine_is_stale) := ⟨rfl, rfl, rfl, by decide +kernel, rfl, by decide +kernel, by decide +kernel⟩
theorem met_is_stale (T : TxM K mg Cm) : C8.Met P w K mg base 1 Cm "is_stale" (spIsStale K Cm) [] := by
  obtain ⟨f, fd, F, M⟩ := T.is_stale.ex
  refine met_of F T.cl M (F.bindsN fun _ _ _ _ _ _ us hl => match us, hl with | [_], _ => rfl) (fok F scIsStaleM (fun vs H Q E h => ?_) (fun cdv A outer s0 H vs Q E hr h => ?_))
  · obtain ⟨L, r, s, rfl, _⟩ := h
    rfl
  · obtain ⟨L, r, s, rfl, M, fin⟩ := h
    refine ⟨_, (pss_one (ps_ret (pe_fld (pv 0) rfl))), ?_⟩
    obtain ⟨a, e1, st⟩ := M.ins
    exact ⟨_, rfl, L.m, _, L.dx, _, _, rfl, e1, T.cl, T.nH, f_had_stale, fin⟩
theorem scIsDoneM : FnScope ["self", "doing", "deeds"] ["self"] (defScope s_Machine_is_done) := ⟨rfl, rfl, rfl, by decide +kernel, rfl, by decide +kernel, by decide +kernel⟩
theorem met_is_done (T : TxM K mg Cm) : C8.Met P w K mg base 1 Cm "is_done" (spIsDone K Cm) [] := by
  obtain ⟨f, fd, F, M⟩ := T.is_done.ex
  have C := T.S.c
  refine met_of F T.cl M (F.bindsN fun _ _ _ _ _ _ us hl => match us, hl with | [_], _ => rfl) (fok F scIsDoneM (fun vs H Q E h => ?_) (fun cdv A outer s0 H vs Q E hr h => ?_))
  · obtain ⟨L, r, s, rfl, _⟩ := h
    rfl
  · obtain ⟨L, r, s, rfl, M, fin⟩ := h
    refine ⟨_, (pss_cons
    (ps_for PassesOwn.never rfl (RZ.pi_zipA (by rfl) T.zip (pa_cons (pe_ix ix_tup (pe_fld (pv 0) rfl) (pe_num (n := 5) rfl C.HANDS) (fun _ _ => rfl)) (pa_cons (pe_fld (pv 0) rfl) pa_nil))) (pg_tup (by rfl) (pgs_cons (pg_name (i := 1) scIsDoneM.nd rfl (.inl rfl)) (pgs_cons (pg_name (i := 2) scIsDoneM.nd rfl (.inl rfl)) pgs_nil))) (pss_one (ps_if (pt_cmpR op_lt (pe_ix ix_tup (pv 1) (pe_num (n := 0) rfl C.NUMBER) (fun _ _ => rfl)) (pe_callB call_len_seq (by rfl) T.len PySem.boot_len (pa_cons (pv 2) pa_nil)) (nomark _)) (pss_one (ps_ret pe_bl)) pss_nil))) (pss_one
    (ps_ret pe_bl))), ?_⟩
    obtain ⟨a, e1, n, fr, v, hh, e0, en, ef, ev, as, eh, pr⟩ := M.ins
    obtain ⟨ls, p1, p2⟩ := id M.pg
    have ll := paired_len p2
    have la := paired_len pr
    rw [List.length_map] at ll
    have la : as.length = s.hands.length := by rw [la]; show (s.hands.map Hand.ph).length = _; rw [List.length_map]
    refine ⟨_, rfl, L.m, _, L.dx, _, _, rfl, e1, T.cl, T.nS, f_state, a, _, 5, _, rfl, rfl, SqT.of e0, rfl, _, rfl, L.m, _, L.dx, _, _, rfl, e1, T.cl, T.nP, f_programs, hh, L.P, as.map V.ref, ls.map V.ref, rfl, .inr ⟨SqT.of eh, SqT.of p1, ?_⟩⟩
    refine RZ.for_zipT (by rw [List.length_map, List.length_map, la, ll]) (fun i σ H1 => Same H H1 ∧ (∃ u v : Option V, σ = [some (.ref L.m), u, v]) ∧ ∀ j, j < i → ∀ h, s.hands[j]? = some h → h.deeds.length ≤ h.at_) ⟨.refl H, ⟨none, none, rfl⟩, fun j hj => absurd hj (Nat.not_lt_zero _)⟩ (fun i σ H1 z => ⟨SqT.of (z.1 _ _ eh), SqT.of (z.1 _ _ p1)⟩) ?_ ?_
    · rintro i x y t σ H1 hx hy ⟨s1, ⟨u, v, rfl⟩, before⟩ nt
      have hi : i < s.hands.length := by
        have := (List.getElem?_eq_some_iff.mp hx).1
        rw [List.length_map] at this
        omega
      have ehi := List.getElem?_eq_getElem hi
      obtain ⟨d, ed, exd⟩ := paired_get pr (show s.ps.hands[i]? = some (s.hands[i]).ph by show (s.hands.map Hand.ph)[i]? = _; rw [List.getElem?_map, ehi]; rfl)
      obtain ⟨l, el, ts, d1, d2⟩ := paired_get p2 (show (s.hands.map Hand.deeds)[i]? = some (s.hands[i]).deeds by rw [List.getElem?_map, ehi]; rfl)
      have x1 : x = .ref d := by
        rw [List.getElem?_map, ed] at hx
        exact (Option.some.inj hx).symm
      have y1 : y = .ref l := by
        rw [List.getElem?_map, el] at hy
        exact (Option.some.inj hy).symm
      subst x1 y1
      have s2 := s1.trans (same_upd (o := .tup [V.ref d, .ref l]) nt)
      have exd2 := s2 _ _ exd
      have dl := d2.len
      rw [List.length_map] at dl
      refine ⟨t, _, rfl, SqT.of upd_same, rfl, _, _, rfl, _, _, rfl, rfl, ?_⟩
      refine ⟨_, rfl, d, _, 0, _, rfl, rfl, SqT.of exd2, rfl, _, rfl, l, _, rfl, .inr (SqT.of (s2 _ _ d1)), _, _, rfl, rfl, _, rfl, ite2 (fun q => ?_) (fun q => ?_)⟩
      · have q := of_decide_eq_true q
        rw [List.length_map, dl, ph_num] at q
        have q2 := fin _ s2
        have dn : s.done = false := by
          rw [Bool.eq_false_iff]
          intro z
          have := List.all_eq_true.mp z _ (List.getElem_mem hi)
          have := of_decide_eq_true this
          omega
        rw [dn] at q2
        exact q2
      · refine ⟨s2, ⟨_, _, rfl⟩, fun j hj g hg => ?_⟩
        by_cases e : j = i
        · subst e
          rw [ehi] at hg
          rw [← Option.some.inj hg]
          have q : ¬ (((s.hands[j]).ph.num : Int) < (((ts.map V.ref).length : Nat) : Int)) := fun z => q (decide_eq_true z)
          rw [List.length_map, dl, ph_num] at q
          omega
        · exact before j (by omega) g hg
    · rintro σ H1 ⟨s1, ⟨u, v, rfl⟩, before⟩
      have q2 := fin _ s1
      have dn : s.done = true := List.all_eq_true.mpr fun h hm => by
        obtain ⟨j, hj, e⟩ := List.mem_iff_getElem.mp hm
        exact decide_eq_true (before j (by rw [List.length_map]; omega) h (by rw [List.getElem?_eq_getElem hj, e]))
      rw [dn] at q2
      exact q2
theorem scPileM : FnScope ["self", "cells", "cell"] ["self"] (defScope s_Machine_pile) := ⟨rfl, rfl, rfl, by decide +kernel, rfl, by decide +kernel, by decide +kernel⟩
theorem met_pile (T : TxM K mg Cm) : C8.Met P w K mg base 1 Cm "pile" (spPileM K Cm) [] := by
  obtain ⟨f, fd, F, M⟩ := T.pile.ex
  have C := T.S.c
  refine met_of F T.cl M (F.bindsN fun _ _ _ _ _ _ us hl => match us, hl with | [_], _ => rfl) (fok F scPileM (fun vs H Q E h => ?_) (fun cdv A outer s0 H vs Q E hr h => ?_))
  · obtain ⟨L, r, n, s, rfl, _⟩ := h
    rfl
  · obtain ⟨L, r, n, s, rfl, M, B, hn, fin⟩ := h
    refine ⟨_, (pss_cons
    (ps_set (i := 1) scPileM.nd rfl (.inl rfl) (pe_lst pa_nil)) (pss_cons
    (ps_set (i := 2) scPileM.nd rfl (.inl rfl) (pe_ix ix_tup (pe_fld (pv 0) rfl) (pe_num (n := 0) rfl C.TOP) (fun _ _ => rfl))) (pss_cons
    (ps_while PassesOwn.never (PW.pt (pw_and (pt_cmpR op_ne (pv 2) pe_int (nomark _)) (pw_and1 (pt_cmpR op_notIn_seq (pv 2) (pv 1) (by rfl))))) (pss_cons
    (ps_expr (pe_bm PySem.F.plainAttrs_list PySem.F.slot_list_append PySem.F.type_list_append mt_append (pv 1) (pa_cons (pv 2) pa_nil))) (pss_one
    (ps_set (i := 2) scPileM.nd rfl (.inl rfl) (pe_ix ix_tup (pe_ix ix_tup (pe_fld (pv 0) rfl) (pe_num (n := 2) rfl C.NEXTS) (fun _ _ => rfl)) (pe_op op_sub (pv 2) pe_int) (fun _ _ => rfl)))))) (pss_one
    (ps_ret (pv 1)))))), ?_⟩
    refine ⟨Nat.zero_le _, fun D nD => ?_⟩
    have sD := same_upd (o := .lst ([] : List V)) nD
    obtain ⟨a, e1, nx0, fr, v, hh, e0, en, ef, ev, eh⟩ := M.ins
    have e1D := sD _ _ e1
    have e0D := sD _ _ e0
    refine ⟨_, rfl, L.m, _, L.dx, _, _, rfl, e1D, T.cl, T.nS, f_state, a, _, 0, _, rfl, rfl, SqT.of e0D, rfl, ?_⟩
    have lb : ∀ c ∈ s.links, c ≤ s.links.length := by rw [← B.len]; exact B.links
    have tb : s.top ≤ s.links.length := by rw [← B.len]; exact B.top
    refine ⟨fun m σ H' => ∃ (acc : List Nat) (t : Nat), σ = [some (.ref L.m), some (.ref D), some (.int (t : Int))] ∧ Same H H' ∧ H' D = some (.lst (vN acc)) ∧ Walk s.links s.links.length acc t ∧ m = s.links.length + 1 - acc.length ∧ pileFrom s.links m acc t = s.pile,
      ⟨_, [], s.top, rfl, sD, upd_same, ⟨List.nodup_nil, fun c h => (by cases h), tb⟩, rfl, rfl⟩, ?_⟩
    rintro m σ H' ⟨acc, t, rfl, s1, eD, wk, rfl, ep⟩
    have al := wk.len
    have stop : (t = 0 ∨ t ∈ acc) → vN acc = vN s.pile := fun q => by
      rw [pileFrom_stop _ q] at ep
      rw [ep]
    have fin2 : (t = 0 ∨ t ∈ acc) → tRet (tVar 1) { nx := fun _ H' => Q .non H', rt := Q } [some (.ref L.m), some (.ref D), some (.int (t : Int))] H' := fun q => ⟨_, rfl, fin D H' s1 nD (by rw [← stop q]; exact eD)⟩
    refine ⟨_, rfl, rfl, _, rfl, ifNeN 0 rfl (fun t0 => ?_) (fun t0 => iteF (fin2 (.inl t0)))⟩
    refine ⟨_, rfl, _, rfl, D, _, rfl, .inl (SqL.of eD), rfl, flat_nat _, _, rfl, ifNotIn (fun hin => ?_) (fun hin => fin2 (.inr (by simpa using hin)))⟩
    have hin : t ∉ acc := by simpa using hin
    have nx := wk.next t0 hin lb
    have al2 := nx.len
    rw [List.length_append] at al2
    have al3 : acc.length + 1 ≤ s.links.length := al2
    have few := B.few.1
    have ln := B.len
    refine ⟨fun σ' H2 => σ' = [some (.ref L.m), some (.ref D), some (.int (linkAt s.links t : Int))] ∧ Same H H2 ∧ H2 D = some (.lst (vN (acc ++ [t]))), ?_, ?_⟩
    · rintro σ' H2 ⟨rfl, s2, e2⟩
      refine ⟨s.links.length + 1 - (acc ++ [t]).length, by rw [List.length_append]; show s.links.length + 1 - (acc.length + 1) < _; omega, acc ++ [t], _, rfl, s2, e2, nx, rfl, ?_⟩
      rw [List.length_append]
      show pileFrom s.links (s.links.length + 1 - (acc.length + 1)) _ _ = _
      rw [← ep, show s.links.length + 1 - acc.length = (s.links.length + 1 - (acc.length + 1)) + 1 by omega, pileFrom_step t0 hin]
    · refine ⟨_, rfl, .inl ⟨rfl, _, SqL.of eD⟩, _, rfl, D, _, _, rfl, rfl, eD, by rw [List.length_map, sizeLine_eq]; omega, ?_⟩
      have s3 : Same H (L2.upd H' D (.lst (vN acc ++ [V.int (t : Int)]))) := fun y o z => by
        rw [upd_ne (ne_of_none z nD)]
        exact s1 _ _ z
      have e13 := s3 _ _ e1
      have e03 := s3 _ _ e0
      refine ⟨_, rfl, L.m, _, L.dx, _, _, rfl, e13, T.cl, T.nS, f_state, a, _, 2, _, rfl, rfl, SqT.of e03, rfl, _, rfl, _, _, rfl, rfl, nx0, _, (t : Int) - 1, _, rfl, rfl, SqT.of (s3 _ _ en), at_link (by omega) wk.le, rfl, s3, ?_⟩
      rw [upd_same]
      unfold vN
      rw [List.map_append]
      rfl
theorem scPileV : FnScope ["self", "cell"] ["self"] (defScope s_Machine_pile_values) := ⟨rfl, rfl, rfl, by decide +kernel, rfl, by decide +kernel, by decide +kernel⟩
theorem pile_in {s : Mach} {n : Nat} (B : Bnd n s) : ∀ c ∈ s.pile, 1 ≤ c ∧ c ≤ s.vals.length := by
  have lb : ∀ c ∈ s.links, c ≤ s.links.length := by rw [← B.len]; exact B.links
  have go : ∀ (m : Nat) (acc : List Nat) (t : Nat), Walk s.links s.links.length acc t → ∀ c ∈ pileFrom s.links m acc t, 1 ≤ c ∧ c ≤ s.links.length := by
    intro m
    induction m with
    | zero => exact fun acc t wk c hc => wk.bd c hc
    | succ m ih =>
      intro acc t wk c hc
      by_cases q : t = 0 ∨ t ∈ acc
      · rw [pileFrom_stop _ q] at hc
        exact wk.bd c hc
      · have q1 : t ≠ 0 := fun z => q (.inl z)
        have q2 : t ∉ acc := fun z => q (.inr z)
        rw [pileFrom_step q1 q2] at hc
        exact ih _ _ (wk.next q1 q2 lb) c hc
  intro c hc
  rw [B.len]
  exact go _ [] s.top ⟨List.nodup_nil, fun c h => (by cases h), by rw [← B.len]; exact B.top⟩ c hc
end
end Sk


namespace Sk
open PySem PySem.Spec PyProof.Rows L2
theorem pile_len {s : Mach} {n : Nat} (B : Bnd n s) : s.pile.length ≤ s.vals.length := by
  have lb : ∀ c ∈ s.links, c ≤ s.links.length := by rw [← B.len]; exact B.links
  have go : ∀ (m : Nat) (acc : List Nat) (t : Nat), Walk s.links s.links.length acc t → (pileFrom s.links m acc t).length ≤ s.links.length := by
    intro m
    induction m with
    | zero => exact fun acc t wk => wk.len
    | succ m ih =>
      intro acc t wk
      by_cases q : t = 0 ∨ t ∈ acc
      · rw [pileFrom_stop _ q]
        exact wk.len
      · have q1 : t ≠ 0 := fun z => q (.inl z)
        have q2 : t ∉ acc := fun z => q (.inr z)
        rw [pileFrom_step q1 q2]
        exact ih _ _ (wk.next q1 q2 lb)
  rw [B.len]
  exact go _ [] s.top ⟨List.nodup_nil, fun c h => (by cases h), by rw [← B.len]; exact B.top⟩
section
variable {P : Program} {w : World} {K : PySem.W.Frag} {mg : Str → Option Value} {base : Heap} {Cm : Addr}
theorem met_pile_values (T : TxM K mg Cm) : C8.Met P w K mg base 2 Cm "pile_values" (spPileV K Cm) [] := by
  obtain ⟨f, fd, F, M⟩ := T.pile_values.ex
  have C := T.S.c
  have m_pile : C8.Met P w K mg base 1 Cm "pile" (spPileM K Cm) [] := met_pile T
  refine met_of F T.cl M (F.bindsN fun _ _ _ _ _ _ us hl => match us, hl with | [_], _ => rfl) (fok F scPileV (fun vs H Q E h => ?_) (fun cdv A outer s0 H vs Q E hr h => ?_))
  · obtain ⟨L, r, n, s, rfl, _⟩ := h
    rfl
  · obtain ⟨L, r, n, s, rfl, M, B, hn, fin⟩ := h
    refine ⟨_, (pss_one (ps_ret (pe_lc (own := [("cell", 1)]) (g := gName 1) (tt := tYes) rfl scPileV.nd (pi_list (C8.pe_mt0 m_pile hr (by decide) (pv 0))) (blkOk_by (N := (["self", "cell"])) (sc := defScope s_Machine_pile_values) (by decide +kernel)) (fun _ _ _ _ _ => pg_name (i := 1) scPileV.nd rfl (Or.inl rfl)) (fun _ _ _ _ _ => pts_nil) (fun _ _ _ _ _ => (pe_ix (r := rIxT K) ix_tup (pe_ix (r := rIxT K) ix_tup (show PE _ _ (tFld K (tVar 0) "state") from pe_fld (pv 0) rfl) (pe_num (n := 4) rfl C.VALUES) (fun _ _ => rfl)) (pe_op op_sub (pv 1) pe_int) (fun _ _ => rfl)))))), ?_⟩
    obtain ⟨a, e1, nx0, fr, v, hh, e0, en, ef, ev, eh⟩ := M.ins
    refine ⟨_, rfl, L.m, L.dx, _, rfl, e1, f_none (by decide +kernel), L, r, n, s, rfl, M, B, hn, fun D1 H1 s1 nD1 eD1 => ?_⟩
    refine ⟨D1, rfl, ⟨_, SqL.of eD1⟩, fun D nD => ?_⟩
    refine lc_list (K := K) (a := D1) (xs := vN s.pile) (fun i H2 => Same H1 H2 ∧ H2 D = some (.lst (((s.pile.map (valAt s.vals)).take i).map V.int))) ⟨same_upd nD, upd_same⟩ (fun i H2 _ z => SqL.of (z.1 _ _ eD1)) ?_ ?_
    · rintro i x H2 hx ⟨s2, eD⟩
      have hi : i < s.pile.length := by
        have := (List.getElem?_eq_some_iff.mp hx).1
        rw [List.length_map] at this
        exact this
      have ex : x = V.int (s.pile[i] : Nat) := by
        unfold vN at hx
        rw [List.getElem?_map, List.getElem?_eq_getElem hi] at hx
        exact (Option.some.inj hx).symm
      subst ex
      obtain ⟨c1, c2⟩ := pile_in B _ (List.getElem_mem hi)
      have s12 := s1.trans s2
      have e12 := s12 _ _ e1
      have e02 := s12 _ _ e0
      refine ⟨rfl, tyes ⟨_, rfl, L.m, _, L.dx, _, _, rfl, e12, T.cl, T.nS, f_state, a, _, 4, _, rfl, rfl, SqT.of e02, rfl, _, rfl, _, _, rfl, rfl, v, _, ((s.pile[i] : Nat) : Int) - 1, _, rfl, rfl, SqT.of (s12 _ _ ev), at_val c1 c2, _, eD, ?_, ?_, ?_⟩⟩
      · rw [List.length_map, List.length_take, List.length_map, sizeLine_eq]
        have := pile_len B
        have := B.few.1
        omega
      · intro c o e
        rw [upd_ne (ne_of_none e nD)]
        exact s2 _ _ e
      · rw [upd_same, List.take_add_one, List.getElem?_map, List.getElem?_eq_getElem hi, List.map_append]
        rfl
    · rintro H2 ⟨s2, eD⟩
      refine fin D H2 (s1.trans s2) (s1.free nD) ?_
      rw [eD, List.take_of_length_le (by rw [List.length_map, List.length_map]; exact Nat.le_refl _)]
      rfl
end
end Sk


/-! played and whole. -/
namespace Sk
open PySem PySem.Spec PyProof.Rows L2
/-- what is handed in -/
structure Given (K : PySem.W.Frag) (H : Hp) (a p rl : Addr) (xs : List Int) (ps : List (List Deed)) (r : Rule) : Prop where
  vals : SqL K H a (xs.map V.int)
  fv : FitV xs
  pg : Progs K H p ps
  ft : Fit ps
  ru : RuleAt H rl r
  rf : r.fit ps.length
theorem Given.same {K : PySem.W.Frag} {H H' : Hp} {a p rl : Addr} {xs : List Int} {ps : List (List Deed)} {r : Rule} (G : Given K H a p rl xs ps r) (s : Same H H') : Given K H' a p rl xs ps r := ⟨s.seq G.vals, G.fv, G.pg.same s, G.ft, G.ru.same s, G.rf⟩
theorem fit_pos {n : Nat} {r : Rule} (h : r.fit n) : r.pos := fun m e => by
  subst e
  exact h.1
/-- tuples of what is told, in a list -/
def ToldAt (H : Hp) (D : Addr) (sts : List Stp) : Prop := ∃ ts : List Addr, H D = some (.lst (ts.map V.ref)) ∧ Paired (fun t st => H t = some (.tup (Stp.row st))) ts sts
def spPlayed (K : PySem.W.Frag) : Sp := fun vs H Q _ => ∃ (a p rl wv : Addr) (xs : List Int) (ps : List (List Deed)) (r : Rule) (ws : List Nat), vs = [.ref a, .ref p, .ref rl, .ref wv] ∧ Given K H a p rl xs ps r ∧ SqL K H wv (vN ws) ∧ (∀ i ∈ ws, i < ps.length) ∧ ws.length ≤ 1000 ∧
  ∀ D H', Same H H' → H D = none → ToldAt H' D (play r (Mach.begun xs ps) ws).1 → Q (.ref D) H'
theorem kept_same {L : ML} {F H H' : Hp} (b : Born F L) (s : Same F H) (k : Kept2 L H H') : Same F H' := fun a o e => k a o (fun z => by
  rw [b a (List.mem_cons_of_mem _ z)] at e
  cases e) (s a o e)
theorem not_own {K : PySem.W.Frag} {H : Hp} {C D : Addr} {r : Rule} {L : ML} {S : PSt} {ps : List (List Deed)} {sd : List (List V)} {es : List (Nat × Nat)} {b : Bool} (M : MacP K H C r L S ps sd es b) (n : H D = none) : D ∉ L.An :: L.own := fun z => by
  rcases List.mem_cons.mp z with q | q
  · rw [q, M.ans] at n
    cases n
  · obtain ⟨o, e, _⟩ := M.own q
    rw [n] at e
    cases e
/-- another thing is written -/
theorem MacP.other {K : PySem.W.Frag} {H : Hp} {C D : Addr} {r : Rule} {L : ML} {S : PSt} {ps : List (List Deed)} {sd : List (List V)} {es : List (Nat × Nat)} {b : Bool} {o u : HO} (M : MacP K H C r L S ps sd es b) (n : D ∉ L.An :: L.own) (e : H D = some o) (m : HO.mut o = true) : MacP K (upd H D u) C r L S ps sd es b :=
  M.frame (.upd e m) fun x hx v z => by
    have ne : x ≠ D := fun q => n (by rw [← q]; exact hx)
    rw [upd_ne ne]
    exact z
theorem play_take {r : Rule} {s : Mach} {ws : List Nat} {k i : Nat} (h : ws[k]? = some i) : play r s (ws.take (k + 1)) = ((play r s (ws.take k)).1 ++ [(turn r (play r s (ws.take k)).2 i).1], (turn r (play r s (ws.take k)).2 i).2) := by
  rw [List.take_add_one, h]
  show play r s (ws.take k ++ [i]) = _
  rw [play_append]
  rfl
theorem hand_at {r : Rule} {s : Mach} {w : List Nat} {i : Nat} (h : i < s.hands.length) : ∃ g, (play r s w).2.hands[i]? = some g := by
  have : i < (play r s w).2.hands.length := by rw [play_many]; exact h
  exact ⟨_, List.getElem?_eq_getElem this⟩
end Sk


/-! What several laws want. -/
namespace Sk
open PySem PySem.Spec PyProof.Rows L2
theorem none_back {F H : Hp} {x : Addr} (s : Same F H) (n : H x = none) : F x = none := by
  cases e : F x with
  | none => rfl
  | some o =>
    rw [s _ _ e] at n
    cases n
def rLenOf (K : PySem.W.Frag) : List V → Hp → VK → Prop := fun xs H Q => ∃ p ys, xs = [.ref p] ∧ (SqL K H p ys ∨ SqT K H p ys) ∧ Q (.int ys.length) H
theorem call_lenK {X : Cx} : CallR X (.builtin "len") (rLenOf X.K) := call_len_seq
theorem at_zero {v : V} {l : List V} : atI (v :: l) 0 = some v := atI_nat (j := 0) rfl
theorem at_one {u v : V} {l : List V} : atI (u :: v :: l) 1 = some v := atI_nat (j := 1) rfl
theorem rg_nat : ∀ n : Nat, vN (List.range n) = rgV 0 (n : Int) := fun n => by
  unfold rgV vN
  rw [Int.sub_zero, Int.toNat_natCast]
  exact List.map_congr_left fun i _ => by rw [Int.zero_add]
theorem same_ne {K : PySem.W.Frag} {H : Hp} {x y : V} {d : PyData} {k : Nat} {Q : VK} (p : Plain k d) (l : k ≤ 64) (hx : Dp K H x d) (hy : Dp K H y d) (q : Q (.bl false) H) : rNeD K x y H Q := by
  refine ⟨d, d, hx, hy, p.shaped l, p.shaped l, ?_⟩
  rw [p.self]
  exact q
theorem last_at {l : List V} {v : V} : atI (l ++ [v]) (-1) = some v := by
  unfold atI ixN
  rw [if_neg (by omega), if_pos (by rw [List.length_append]; show -((l.length + 1 : Nat) : Int) ≤ -1; omega)]
  show (l ++ [v])[((-1 : Int) + ((l ++ [v]).length : Nat)).toNat]? = some v
  rw [List.length_append]
  rw [show ((-1 : Int) + ((l.length + [v].length : Nat) : Int)).toNat = l.length from by show ((-1 : Int) + ((l.length + 1 : Nat) : Int)).toNat = _; omega]
  simp
theorem sum_nat : ∀ l : List Nat, ((l.map fun n : Nat => (n : Int))).sum = ((l.sum : Nat) : Int)
  | [] => rfl
  | n :: l => by
    rw [List.map_cons, List.sum_cons, List.sum_cons, sum_nat l]
    omega
theorem dp_anss {K : PySem.W.Frag} {H : Hp} {q : Addr} {l : List V} (e : H q = some (.lst l)) (ok : ∀ v ∈ l, IsAns v) : Dp K H (.ref q) (.list (l.map ansD)) := .lst (SqL.of e) (dp_of (paired_self ansD fun v hv => ans_dp (ok v hv)))
theorem Plain.anss (k : Nat) {l : List V} (ok : ∀ v ∈ l, IsAns v) : Plain (k + 1) (.list (l.map ansD)) := .lst fun d hd => by
  obtain ⟨v, hv, e⟩ := List.mem_map.mp hd
  rw [← e]
  exact .ans k (ok v hv)
def toldD (sts : List Stp) : PyData := .list (sts.map Stp.dat)
theorem told_dp {K : PySem.W.Frag} {H : Hp} {D : Addr} {sts : List Stp} (h : ToldAt H D sts) (ok : ∀ st ∈ sts, st.Ok) : Dp K H (.ref D) (toldD sts) := by
  obtain ⟨ts, e, pr⟩ := h
  refine .lst (SqL.of e) (dp_of (paired_mapL V.ref (paired_mapR _ ?_)))
  have go : ∀ {ts : List Addr} {sts : List Stp}, Paired (fun t st => H t = some (.tup (Stp.row st))) ts sts → (∀ st ∈ sts, st.Ok) → Paired (fun t st => Dp K H (.ref t) (Stp.dat st)) ts sts := by
    intro ts sts pr ok
    induction pr with
    | nil => exact .nil
    | cons r rs ih => exact .cons (stp_dp (ok _ List.mem_cons_self) (SqT.of r)) (ih fun l hl => ok l (List.mem_cons_of_mem _ hl))
  exact go pr ok
theorem Plain.stp (k : Nat) {st : Stp} (ok : st.Ok) : Plain (k + 1) st.dat := by
  have one : ∀ x : PyData, Plain k x → Plain k (.str st.word) → ∀ y ∈ [PyData.str st.word, x], Plain k y := fun x hx hs y hy => by
    have hy : y = .str st.word ∨ y = x := by simpa using hy
    rcases hy with rfl | rfl
    · exact hs
    · exact hx
  have non : Plain k (.str st.word) → ∀ y ∈ [PyData.str st.word], Plain k y := fun hs y hy => by
    have hy : y = .str st.word := by simpa using hy
    subst hy
    exact hs
  have hw : Plain k (.str st.word) := .str k (word_lay st)
  unfold Stp.dat
  cases st with
  | ends a => exact .tup (one _ (.ans k ok) hw)
  | rests => exact .tup (non hw)
  | misses => exact .tup (non hw)
  | looks b => exact .tup (one _ (.bl k b) hw)
  | takes c => exact .tup (one _ (.int k _) hw)
  | reads c => exact .tup (one _ (.int k _) hw)
  | links c => exact .tup (one _ (.int k _) hw)
  | marks c => exact .tup (one _ (.int k _) hw)
  | follows c => exact .tup (one _ (.int k _) hw)
  | exchanges c => exact .tup (one _ (.int k _) hw)
theorem Plain.told (k : Nat) {sts : List Stp} (ok : ∀ st ∈ sts, st.Ok) : Plain (k + 2) (toldD sts) := .lst fun d hd => by
  obtain ⟨st, hs, e⟩ := List.mem_map.mp hd
  exact e ▸ .stp k (ok st hs)
theorem Plain.pair (k : Nat) (p : Nat × Nat) : Plain (k + 1) (pairD p) := .tup fun x hx => by
  have hx : x = .int (p.1 : Int) ∨ x = .int (p.2 : Int) := by simpa using hx
  rcases hx with rfl | rfl <;> exact .int k _
theorem paired_take {α β : Type} {R : α → β → Prop} : ∀ {as : List α} {bs : List β} (k : Nat), Paired R as bs → Paired R (as.take k) (bs.take k)
  | _, _, k, .nil => by rw [List.take_nil, List.take_nil]; exact .nil
  | _, _, 0, .cons _ _ => .nil
  | _, _, k + 1, .cons r rs => .cons r (paired_take k rs)
theorem paired_drop {α β : Type} {R : α → β → Prop} : ∀ {as : List α} {bs : List β} (k : Nat), Paired R as bs → Paired R (as.drop k) (bs.drop k)
  | _, _, k, .nil => by rw [List.drop_nil, List.drop_nil]; exact .nil
  | _, _, 0, .cons r rs => .cons r rs
  | _, _, k + 1, .cons r rs => paired_drop k rs
theorem ToldAt.same {H H' : Hp} {D : Addr} {sts : List Stp} (h : ToldAt H D sts) (s : Same H H') : ToldAt H' D sts := by
  obtain ⟨ts, x1, x2⟩ := h
  exact ⟨ts, s _ _ x1, Paired.mono2 (fun _ _ z => s _ _ z) x2⟩
/-- what the machine's own step keeps -/
theorem Drew.kept {K : PySem.W.Frag} {p a : Addr} {ns : List Int} {F H H' : Hp} {L : ML} (d0 : Dice K F p a ns) (x : Drew K p a ns F H) (b : Born F L) (k : Kept2 L H H') : Drew K p a ns F H' := by
  have nb : ∀ y u, F y = some u → y ∉ L.own := fun y u e z => by
    rw [b y (List.mem_cons_of_mem _ z)] at e
    cases e
  have bt : But p F H' := fun c u q e => k c u (nb c u e) (x.b c u q e)
  obtain ⟨i, m, c, h, r⟩ := x.d.at_
  obtain ⟨l, e⟩ := d0.some
  exact ⟨⟨⟨i, m, c, k p _ (nb p _ e) h, r⟩, d0.sc.but bt⟩, bt⟩
theorem kp_but {p : Addr} {H H' : Hp} {l : List V} (b : But p H H') (e : H p = some (.lst l)) : Kp H H' := fun c o z n => b c o (fun q => by
  rw [q, e] at z
  cases z
  cases n) z
theorem total_le {ps : List (List Deed)} (ft : Fit ps) : total ps ≤ 12 := by
  have go : ∀ (qs : List (List Deed)), (∀ ds ∈ qs, ds.length ≤ 4 ∧ ∀ d ∈ ds, d.fit) → (qs.map List.length).sum ≤ 4 * qs.length := by
    intro qs
    induction qs with
    | nil => exact fun _ => Nat.le_refl _
    | cons q qs ih =>
      intro h
      have a1 := (h q List.mem_cons_self).1
      have a2 := ih fun ds hd => h ds (List.mem_cons_of_mem _ hd)
      rw [List.map_cons, List.sum_cons, List.length_cons]
      omega
  have := go ps ft.2.2
  have := ft.2.1
  unfold total
  omega
theorem deedAt_fit {ps : List (List Deed)} (ft : Fit ps) (e : Nat × Nat) : (deedAt ps e).fit := by
  unfold deedAt
  by_cases h : e.1 < ps.length
  · have m := List.getElem_mem h
    rw [show ps.getD e.1 [] = ps[e.1] from by simp [List.getD, List.getElem?_eq_getElem h]]
    by_cases h2 : e.2 < (ps[e.1]).length
    · rw [show (ps[e.1]).getD e.2 .pop = (ps[e.1])[e.2] from by simp [List.getD, List.getElem?_eq_getElem h2]]
      exact (ft.2.2 _ m).2 _ (List.getElem_mem h2)
    · rw [show (ps[e.1]).getD e.2 .pop = .pop from by simp [List.getD, List.getElem?_eq_none (Nat.le_of_not_lt h2)]]
      trivial
  · rw [show ps.getD e.1 [] = [] from by simp [List.getD, List.getElem?_eq_none (Nat.le_of_not_lt h)]]
    trivial
theorem decided_fit {ps : List (List Deed)} (ft : Fit ps) (es : List (Nat × Nat)) : ∀ d ∈ decided ps es, d.fit := fun d hd => by
  obtain ⟨e, _, q⟩ := List.mem_map.mp hd
  rw [← q]
  exact deedAt_fit ft e
end Sk


/-! Two hands of few deeds, drawn. -/
namespace Sk
open PySem PySem.Spec PyProof.Rows L2
structure TxF (K : PySem.W.Frag) (mg : Str → Option Value) : Prop where
  dice : DefAt K mg "_law_dice" sDice
  next : DefAt K mg "_law_next" sNext
  values : DefAt K mg "_law_values" sValues
  deed : DefAt K mg "_law_deed" sDeed
  rule : DefAt K mg "_law_rule" sRule
  weaving : DefAt K mg "_law_weaving" sWeav
  few : DefAt K mg "_law_few" s_law_few
  B : TxB mg
def spFew (K : PySem.W.Frag) : Sp := fun vs H Q _ => ∃ (p a : Addr) (ns : List Int), vs = [.ref p] ∧ Dice K H p a ns ∧
  ∀ (R : Addr) (ps : List (List Deed)) (H' : Hp), Drew K p a ns H H' → H R = none → Progs K H' R ps → Fit ps → ps.length = 2 → bits ps ∈ fewAll → Q (.ref R) H'
section
variable {P : Program} {w : World} {K : PySem.W.Frag} {mg : Str → Option Value} {base : Heap}
theorem cal_diceF (T : TxF K mg) : C8.Cal P w K mg base 1 "_law_dice" (spDice K) [] := by
  obtain ⟨f, fd, F, g⟩ := T.dice.ex
  exact cal_of F g (F.bindsN fun _ _ _ _ _ _ us hl => match us, hl with | [_], _ => rfl) (ok_dice F T.B.len T.B.int)
theorem cal_nextF (T : TxF K mg) : C8.Cal P w K mg base 1 "_law_next" (spNext K) [] := by
  obtain ⟨f, fd, F, g⟩ := T.next.ex
  exact cal_of F g (F.bindsN fun _ _ _ _ _ _ us hl => match us, hl with | [_, _], _ => rfl) (ok_next F T.B.len)
theorem cal_valuesF (T : TxF K mg) : C8.Cal P w K mg base 2 "_law_values" (spValues K) [] := by
  obtain ⟨f, fd, F, g⟩ := T.values.ex
  obtain ⟨f2, fd2, F2, g2⟩ := T.next.ex
  exact cal_of F g (F.bindsN fun _ _ _ _ _ _ us hl => match us, hl with | [_, _], _ => rfl) (ok_values F F2 g2 T.B.len T.B.range)
theorem cal_deedF (T : TxF K mg) : C8.Cal P w K mg base 2 "_law_deed" (spDeed K) [] := by
  obtain ⟨f, fd, F, g⟩ := T.deed.ex
  obtain ⟨f2, fd2, F2, g2⟩ := T.next.ex
  exact cal_of F g (F.bindsN fun _ _ _ _ _ _ us hl => match us, hl with | [_], _ => rfl) (ok_deed_ F F2 g2 T.B.len)
theorem cal_ruleF (T : TxF K mg) : C8.Cal P w K mg base 2 "_law_rule" (spRule K) [] := by
  obtain ⟨f, fd, F, g⟩ := T.rule.ex
  obtain ⟨f2, fd2, F2, g2⟩ := T.next.ex
  exact cal_of F g (F.bindsN fun _ _ _ _ _ _ us hl => match us, hl with | [_, _], _ => rfl) (ok_rule F F2 g2 T.B)
theorem cal_weavingF (T : TxF K mg) : C8.Cal P w K mg base 2 "_law_weaving" (spWeav K) [] := by
  obtain ⟨f, fd, F, g⟩ := T.weaving.ex
  obtain ⟨f2, fd2, F2, g2⟩ := T.next.ex
  exact cal_of F g (F.bindsN fun _ _ _ _ _ _ us hl => match us, hl with | [_, _, _], _ => rfl) (ok_weav F F2 g2 T.B)
theorem cut_fromF {xs : List V} {k : Nat} (h : k ≤ xs.length) : cutV xs (some (k : Int)) none = xs.drop k := by
  unfold cutV
  rw [HT.sIx_none, HT.sIx_nat, Nat.min_eq_left h, List.take_of_length_le (by rw [List.length_drop]; omega)]
theorem Rows.erase {K : PySem.W.Frag} {H : Hp} : ∀ (n : Nat) {ts : List Addr} {rs : List Row}, Rows K H ts rs → Rows K H (ts.eraseIdx n) (rs.eraseIdx n)
  | _, _, _, .nil => .nil
  | 0, _, _, .cons _ h => h
  | n + 1, _, _, .cons a h => .cons a (Rows.erase n h)
theorem scFew : FnScope ["_law_d", "_law_one", "_law_other"] ["_law_d"] (defScope s_law_few) := ⟨rfl, rfl, rfl, by decide +kernel, rfl, by decide +kernel, by decide +kernel⟩
theorem cal_few (TF : TxF K mg) : C8.Cal P w K mg base 3 "_law_few" (spFew K) [] := by
  obtain ⟨f, fd, F, g⟩ := TF.few.ex
  have T := TF.B
  have c__law_next : C8.Cal P w K mg base 1 "_law_next" (spNext K) [] := cal_nextF TF
  have c__law_deed : C8.Cal P w K mg base 2 "_law_deed" (spDeed K) [] := cal_deedF TF
  refine cal_of F g (F.bindsN fun _ _ _ _ _ _ us hl => match us, hl with | [_], _ => rfl) (fok F scFew (fun vs H Q E h => ?_) (fun cdv A outer s0 H vs Q E hr h => ?_))
  · obtain ⟨p, a, ns, rfl, _⟩ := h
    rfl
  · obtain ⟨p, a, ns, rfl, d0, fin⟩ := h
    refine ⟨_, (pss_cons
    (ps_set (i := 1) scFew.nd rfl (.inl rfl) (pe_ix ix_list (pe_lst (pa_cons (pe_lst (pa_cons (pe_tup (pa_cons pe_str pa_nil)) pa_nil)) (pa_cons (pe_lst (pa_cons (C8.pe_c c__law_deed hr (by decide) (by rfl) (pa_cons (pv 0) pa_nil)) pa_nil)) pa_nil))) (pe_callTy call_int1 (by rfl) T.int (by decide +kernel) (pa_cons (pe_cmpR op_eq (C8.pe_c c__law_next hr (by decide) (by rfl) (pa_cons (pv 0) (pa_cons pe_int pa_nil))) pe_int (nomark _)) pa_nil)) (fun _ _ => rfl))) (pss_cons
    (ps_set (i := 2) scFew.nd rfl (.inl rfl) (pe_slice sl_list (pe_lst (pa_cons (pe_tup (pa_cons pe_str pa_nil)) (pa_cons (pe_tup (pa_cons pe_str pa_nil)) (pa_cons (pe_tup (pa_cons pe_str (pa_cons (C8.pe_c c__law_next hr (by decide) (by rfl) (pa_cons (pv 0) (pa_cons pe_int pa_nil))) pa_nil))) pa_nil)))) (po_some (C8.pe_c c__law_next hr (by decide) (by rfl) (pa_cons (pv 0) (pa_cons pe_int pa_nil)))) po_none)) (pss_cons
    (ps_expr (pe_bm PySem.F.plainAttrs_list PySem.F.slot_list_insert PySem.F.type_list_insert mt_insert (pv 2) (pa_cons (C8.pe_c c__law_next hr (by decide) (by rfl) (pa_cons (pv 0) (pa_cons (pe_op op_add (pe_callB call_len_seq (by rfl) T.len PySem.boot_len (pa_cons (pv 2) pa_nil)) pe_int) pa_nil))) (pa_cons (C8.pe_c c__law_deed hr (by decide) (by rfl) (pa_cons (pv 0) pa_nil)) pa_nil)))) (Evl.pss_cut
    (ps_if (PW.pt (pw_and (pt_cmpR op_gt (pe_callB call_len_seq (by rfl) T.len PySem.boot_len (pa_cons (pv 2) pa_nil)) pe_int (nomark _)) (pw_and1 (pt_cmpR op_gt (C8.pe_c c__law_next hr (by decide) (by rfl) (pa_cons (pv 0) (pa_cons pe_int pa_nil))) pe_int (nomark _))))) (pss_one (ps_expr (pe_bm PySem.F.plainAttrs_list PySem.F.slot_list_pop PySem.F.type_list_pop mt_popAt (pv 2) (pa_cons (C8.pe_c c__law_next hr (by decide) (by rfl) (pa_cons (pv 0) (pa_cons pe_int pa_nil))) pa_nil)))) pss_nil) (pss_one
    (ps_ret (pe_way (pe_lst (pa_cons (pv 1) (pa_cons (pv 2) pa_nil))) (pe_ix ix_list (pe_lst (pa_cons pe_int (pa_cons (pe_un un_neg pe_int) pa_nil))) (C8.pe_c c__law_next hr (by decide) (by rfl) (pa_cons (pv 0) (pa_cons pe_int pa_nil))) (fun _ _ => rfl))))))))), ?_⟩
    refine ⟨by show 1 ≤ sizeLine; decide, fun t1 nt1 => ⟨by show 1 ≤ sizeLine; decide, fun a1 na1 => ?_⟩⟩
    have q1 := same_upd (o := .tup (rowV Deed.pop.row)) nt1
    have q2 := same_upd (o := .lst [V.ref t1]) na1
    have w0 : Drew K p a ns H _ := ((Drew.refl d0).same q1).same q2
    have pA1 : ProgAt K (upd (upd H t1 (.tup [V.str sPop])) a1 (.lst [V.ref t1])) a1 [.pop] := ⟨[t1], upd_same, .cons (SqT.of (q2 _ _ upd_same)) .nil⟩
    have a1p : a1 ≠ p := ((Drew.refl d0).same q1).ne na1
    have w0 : Drew K p a ns H (upd (upd H t1 (.tup [V.str sPop])) a1 (.lst [V.ref t1])) := w0
    have na10 : H a1 = none := none_back q1 na1
    generalize upd (upd H t1 (.tup [V.str sPop])) a1 (.lst [V.ref t1]) = H1 at w0 pA1 ⊢
    refine ⟨_, rfl, p, a, ns, rfl, w0.d, fun td d1 H2 w2 ntd etd fd1 => ⟨by show 1 ≤ sizeLine; decide, fun a2 na2 => ⟨by show 2 ≤ sizeLine; decide, fun A2 nA2 => ?_⟩⟩⟩
    have w02 := w0.trans w2
    have r1 := same_upd (o := .lst [V.ref td]) na2
    have r2 := same_upd (o := .lst [V.ref a1, .ref a2]) nA2
    have pA2 : ProgAt K (upd (upd H2 a2 (.lst [V.ref td])) A2 (.lst [V.ref a1, .ref a2])) a2 [d1] := ⟨[td], r2 _ _ upd_same, .cons (SqT.of (r2 _ _ (r1 _ _ etd))) .nil⟩
    have pA1' := ((pA1.drew w0.d w2.b).same r1).same r2
    have w3 : Drew K p a ns H (upd (upd H2 a2 (.lst [V.ref td])) A2 (.lst [V.ref a1, .ref a2])) := (w02.same r1).same r2
    have a2p : a2 ≠ p := w02.ne na2
    have na20 : H a2 = none := w02.free na2
    have A2p : A2 ≠ p := (w02.same r1).ne nA2
    have eA2 : (upd (upd H2 a2 (.lst [V.ref td])) A2 (.lst [V.ref a1, .ref a2])) A2 = some (.lst [V.ref a1, .ref a2]) := upd_same
    generalize upd (upd H2 a2 (.lst [V.ref td])) A2 (.lst [V.ref a1, .ref a2]) = H3 at w3 pA1' pA2 eA2 ⊢
    refine ⟨_, rfl, p, a, ns, 4, rfl, w3.d, by decide, by decide, fun x H4 x0 x1 w4 => ⟨rfl, .inr ⟨_, rfl, ?_⟩⟩⟩
    have eA24 := w4.b _ _ A2p eA2
    obtain ⟨one, d, eat, onep, none1, pOne, fd⟩ : ∃ (one : Addr) (d : Deed), atI [V.ref a1, .ref a2] (if decide (V.int x = V.int 3) = true then 1 else 0) = some (.ref one) ∧ one ≠ p ∧ H one = none ∧ ProgAt K H4 one [d] ∧ d.fit := by
      by_cases q : decide (V.int x = V.int 3) = true
      · rw [if_pos q]
        exact ⟨a2, d1, rfl, a2p, na20, pA2.drew w3.d w4.b, fd1⟩
      · rw [if_neg q]
        exact ⟨a1, .pop, rfl, a1p, na10, pA1'.drew w3.d w4.b, trivial⟩
    have w04 := w3.trans w4
    refine ⟨A2, _, _, .ref one, rfl, rfl, SqL.of eA24, eat, ?_⟩
    -- the other
    refine ⟨by show 1 ≤ sizeLine; decide, fun t2 m2 => ⟨by show 1 ≤ sizeLine; decide, fun t3 m3 => ⟨_, rfl, p, a, ns, 100, rfl, (w04.same ((same_upd m2).trans (same_upd m3))).d, by decide, by decide, fun v H5 v0 v1 w5 => ⟨by show 2 ≤ sizeLine; decide, fun t4 m4 => ⟨by show 3 ≤ sizeLine; decide, fun L3 nL3 => ?_⟩⟩⟩⟩⟩
    have u12 := (same_upd (o := .tup (rowV Deed.pop.row)) m2).trans (same_upd (o := .tup (rowV Deed.pop.row)) m3)
    have e2 := (same_upd (o := .tup (rowV Deed.pop.row)) m3) _ _ (upd_same (H := H4) (a := t2) (o := .tup (rowV Deed.pop.row)))
    have e3 := upd_same (H := upd H4 t2 (.tup (rowV Deed.pop.row))) (a := t3) (o := .tup (rowV Deed.pop.row))
    have w4b := w04.same u12
    obtain ⟨lp, elp⟩ := w4b.d.some
    have e25 : SqT K H5 t2 (rowV Deed.pop.row) := sqt_but w5.b elp (SqT.of e2)
    have e35 : SqT K H5 t3 (rowV Deed.pop.row) := sqt_but w5.b elp (SqT.of e3)
    have pOne5 := (pOne.same u12).drew w4b.d w5.b
    have v1' := same_upd (o := .tup (rowV (Deed.push v).row)) m4
    have v2' := same_upd (o := .lst [V.ref t2, .ref t3, .ref t4]) nL3
    have w05 := w4b.trans w5
    have w6 : Drew K p a ns H (upd (upd H5 t4 (.tup [V.str sPush, .int v])) L3 (.lst [V.ref t2, .ref t3, .ref t4])) := (w05.same v1').same v2'
    have R6 : Rows K (upd (upd H5 t4 (.tup [V.str sPush, .int v])) L3 (.lst [V.ref t2, .ref t3, .ref t4])) [t2, t3, t4] (([Deed.pop, .pop, .push v] : List Deed).map Deed.row) := .cons (same_tup (v1'.trans v2') e25) (.cons (same_tup (v1'.trans v2') e35) (.cons (SqT.of (v2' _ _ upd_same)) .nil))
    have eL3 : (upd (upd H5 t4 (.tup [V.str sPush, .int v])) L3 (.lst [V.ref t2, .ref t3, .ref t4])) L3 = some (.lst ([t2, t3, t4].map V.ref)) := upd_same
    have L3p : L3 ≠ p := (w05.same v1').ne nL3
    have pOne6 := (pOne5.same v1').same v2'
    have w6 : Drew K p a ns H (upd (upd H5 t4 (.tup [V.str sPush, .int v])) L3 (.lst [V.ref t2, .ref t3, .ref t4])) := w6
    have pOne6 : ProgAt K (upd (upd H5 t4 (.tup [V.str sPush, .int v])) L3 (.lst [V.ref t2, .ref t3, .ref t4])) one [d] := pOne6
    generalize upd (upd H5 t4 (.tup [V.str sPush, .int v])) L3 (.lst [V.ref t2, .ref t3, .ref t4]) = H6 at w6 R6 eL3 pOne6 ⊢
    refine ⟨_, rfl, p, a, ns, 3, rfl, w6.d, by decide, by decide, fun c H7 c0 c1 w7 => ⟨_, rfl, L3, _, rfl, SqL.of (w7.b _ _ L3p eL3), fun O nO => ?_⟩⟩
    obtain ⟨c, rfl⟩ : ∃ k : Nat, c = (k : Int) := ⟨c.toNat, by omega⟩
    have w07 := w6.trans w7
    obtain ⟨lp6, elp6⟩ := w6.d.some
    have R7 : Rows K H7 [t2, t3, t4] (([Deed.pop, .pop, .push v] : List Deed).map Deed.row) := R6.mono fun _ _ z => sqt_but w7.b elp6 z
    have pOne7 := pOne6.drew w6.d w7.b
    have sO := same_upd (o := .lst (cutV ([t2, t3, t4].map V.ref) (some (c : Int)) none)) nO
    have Op : O ≠ p := w07.ne nO
    have nOH : H O = none := w07.free nO
    have eO : upd H7 O (.lst (cutV ([t2, t3, t4].map V.ref) (some (c : Int)) none)) O = some (.lst (([t2, t3, t4].drop c).map V.ref)) := by
      rw [upd_same, cut_fromF (by show c ≤ 3; omega), List.map_drop]
    have w8 := w07.same sO
    have R8 : Rows K (upd H7 O (.lst (cutV ([t2, t3, t4].map V.ref) (some (c : Int)) none))) ([t2, t3, t4].drop c) ((([Deed.pop, .pop, .push v] : List Deed).drop c).map Deed.row) := by
      rw [List.map_drop]
      exact (R7.mono fun _ _ z => same_tup sO z).drop c
    have pOne8 := pOne7.same sO
    have oneO : one ≠ O := by
      obtain ⟨ts, e, _⟩ := pOne7
      exact ne_of_none e nO
    generalize upd H7 O (.lst (cutV ([t2, t3, t4].map V.ref) (some (c : Int)) none)) = H8 at eO w8 R8 pOne8 ⊢
    have lO : ([t2, t3, t4].drop c).length = 3 - c := by rw [List.length_drop]; rfl
    refine ⟨_, rfl, .inl ⟨rfl, _, SqL.of eO⟩, _, rfl, _, rfl, O, _, rfl, .inl (SqL.of eO), _, _, rfl, rfl, p, a, ns, _, rfl, w8.d, by omega, by rw [List.length_map, lO]; omega, fun k H9 k0 k1 w9 => ⟨_, rfl, p, a, ns, rfl, w9.d, fun tn dn H10 w10 ntn etn fdn => ?_⟩⟩
    obtain ⟨k, rfl⟩ : ∃ j : Nat, k = (j : Int) := ⟨k.toNat, by omega⟩
    rw [List.length_map, lO] at k1
    have k3 : k ≤ 3 - c := by omega
    obtain ⟨lp8, elp8⟩ := w8.d.some
    obtain ⟨lp9, elp9⟩ := w9.d.some
    have eO10 := w10.b _ _ Op (w9.b _ _ Op eO)
    have R10 : Rows K H10 ([t2, t3, t4].drop c) ((([Deed.pop, .pop, .push v] : List Deed).drop c).map Deed.row) := (R8.mono fun _ _ z => sqt_but w9.b elp8 z).mono fun _ _ z => sqt_but w10.b elp9 z
    have pOne10 := (pOne8.drew w8.d w9.b).drew w9.d w10.b
    have w010 := (w8.trans w9).trans w10
    refine ⟨O, _, _, _, rfl, rfl, eO10, by rw [List.length_map, lO, sizeLine_eq]; omega, k0, by omega, ?_⟩
    have eIns : (([t2, t3, t4].drop c).map V.ref).take (k : Int).toNat ++ [V.ref tn] ++ (([t2, t3, t4].drop c).map V.ref).drop (k : Int).toNat = (([t2, t3, t4].drop c).take k ++ [tn] ++ ([t2, t3, t4].drop c).drop k).map V.ref := by
      rw [Int.toNat_natCast]
      simp only [List.map_append, List.map_take, List.map_drop, List.map_cons, List.map_nil]
    rw [eIns]
    have w11 : Drew K p a ns H (upd H10 O (.lst ((([t2, t3, t4].drop c).take k ++ [tn] ++ ([t2, t3, t4].drop c).drop k).map V.ref))) := w010.put d0 nOH Op
    have pOther : ProgAt K (upd H10 O (.lst ((([t2, t3, t4].drop c).take k ++ [tn] ++ ([t2, t3, t4].drop c).drop k).map V.ref))) O (dO v c k dn) := by
      refine ⟨_, upd_same, ?_⟩
      have eD : (dO v c k dn).map Deed.row = (((([Deed.pop, .pop, .push v] : List Deed).drop c).map Deed.row).take k ++ [dn.row]) ++ ((([Deed.pop, .pop, .push v] : List Deed).drop c).map Deed.row).drop k := by
        unfold dO
        simp only [List.map_append, List.map_take, List.map_drop, List.map_cons, List.map_nil]
      rw [eD]
      exact (((R10.take k).append (.cons (SqT.of etn) .nil)).append (R10.drop k)).mono fun _ _ z => sqt_upd eO10 z
    have pOne11 := pOne10.upd (o := .lst ((([t2, t3, t4].drop c).take k ++ [tn] ++ ([t2, t3, t4].drop c).drop k).map V.ref)) eO10 oneO
    generalize upd H10 O (.lst ((([t2, t3, t4].drop c).take k ++ [tn] ++ ([t2, t3, t4].drop c).drop k).map V.ref)) = H11 at w11 pOther pOne11 ⊢
    obtain ⟨fl, ff⟩ := dO_fit (k := k) (c := c) ⟨v0, v1⟩ fdn (by omega) k3
    obtain ⟨in1, in2⟩ := fewO_in (x := dn.isPush) (c := c) (k := k) (by omega) k3
    have bl : (bO c k dn.isPush).length = 4 - c := by rw [← dO_bits v, List.length_map, fl]
    refine ⟨fun σ' H' => σ' = [some (.ref p), some (.ref one), some (.ref O)] ∧ Drew K p a ns H H' ∧ ProgAt K H' one [d] ∧ ∃ ds : List Deed, ProgAt K H' O ds ∧ ds.map Deed.isPush ∈ fewO ∧ ds.length ≤ 4 ∧ ∀ e ∈ ds, e.fit, ?first, ?more⟩
    case first =>
      obtain ⟨ts, e1, e2⟩ := id pOther
      have tl := e2.len
      rw [List.length_map, fl] at tl
      refine ⟨_, rfl, O, _, rfl, .inl (SqL.of e1), _, _, rfl, rfl, _, rfl, ite2 (fun q => ?_) (fun q => iteF ⟨rfl, w11, pOne11, _, pOther, by rw [dO_bits]; exact in1, by omega, ff⟩)⟩
      have q3 : 3 < 4 - c := by
        have := of_decide_eq_true q
        rw [List.length_map] at this
        omega
      refine ⟨_, rfl, p, a, ns, 3, rfl, w11.d, by decide, by decide, fun y H12 y0 y1 w12 => ⟨_, _, rfl, rfl, _, rfl, ite2 (fun _ => ?_) (fun _ => ⟨rfl, w11.trans w12, pOne11.drew w11.d w12.b, _, pOther.drew w11.d w12.b, by rw [dO_bits]; exact in1, by omega, ff⟩)⟩⟩
      have w012 := w11.trans w12
      have pO12 := pOther.drew w11.d w12.b
      obtain ⟨ts2, g1, g2⟩ := id pO12
      refine ⟨_, rfl, .inl ⟨rfl, _, SqL.of g1⟩, _, rfl, p, a, ns, 3, rfl, w12.d, by decide, by decide, fun j H13 j0 j1 w13 => ?_⟩
      obtain ⟨j, rfl⟩ : ∃ k : Nat, j = (k : Int) := ⟨j.toNat, by omega⟩
      obtain ⟨lp12, elp12⟩ := w12.d.some
      have eO13 := w13.b _ _ Op g1
      have R13 := g2.mono fun _ _ z => sqt_but w13.b elp12 z
      have tl2 := R13.len
      rw [List.length_map, fl] at tl2
      have hj : j < ts2.length := by omega
      refine ⟨O, _, _, j, _, rfl, rfl, eO13, by omega, by omega, (ixN_seq (Evl.ixN_nat (j := j) (by rw [List.length_map]; exact hj))).1, by rw [List.getElem?_map, List.getElem?_eq_getElem hj]; rfl, ?_⟩
      have pOne13 := ((pOne11.drew w11.d w12.b).drew w12.d w13.b).upd (o := .lst ((ts2.map V.ref).eraseIdx j)) eO13 oneO
      refine ⟨rfl, (w012.trans w13).put d0 nOH Op, pOne13, (dO v c k dn).eraseIdx j, ⟨ts2.eraseIdx j, by rw [upd_same, map_erase], ?_⟩, ?_, ?_, fun e he => ff e (List.mem_of_mem_eraseIdx he)⟩
      · rw [map_erase]
        exact (R13.erase j).mono fun _ _ z => sqt_upd eO13 z
      · rw [map_erase, dO_bits]
        exact in2 (by rw [bl]; exact q3) j (by omega)
      · have := List.length_eraseIdx_le (dO v c k dn) j
        omega
    case more =>
      rintro σ' H12 ⟨rfl, w12, pO, ds, pD, inO, dl, df⟩
      refine ⟨_, rfl, _, rfl, by show 2 ≤ sizeLine; decide, fun R0 nR0 => ⟨_, rfl, by show 2 ≤ sizeLine; decide, fun L nL => ⟨_, rfl, p, a, ns, 2, rfl, w12.d.same ((same_upd nR0).trans (same_upd nL)), by decide, by decide, fun j H13 j0 j1 w13 => ?_⟩⟩⟩
      have q1 := same_upd (o := .lst [V.ref one, .ref O]) nR0
      have q2 := same_upd (o := .lst [V.int 1, V.int (-1)]) nL
      have w12b := (w12.same q1).same q2
      have R0p : R0 ≠ p := w12.ne nR0
      have Lp : L ≠ p := (w12.same q1).ne nL
      have eR13 := w13.b _ _ R0p (q2 _ _ (upd_same (H := H12) (a := R0) (o := .lst [V.ref one, .ref O])))
      have eL13 := w13.b _ _ Lp (upd_same (H := upd H12 R0 (.lst [V.ref one, .ref O])) (a := L) (o := .lst [V.int 1, V.int (-1)]))
      have pA := ((pO.same q1).same q2).drew w12b.d w13.b
      have pB := ((pD.same q1).same q2).drew w12b.d w13.b
      have w13b := w12b.trans w13
      obtain ⟨kk, hk, ek⟩ : ∃ kk : Int, (kk = 1 ∨ kk = -1) ∧ atI [V.int 1, V.int (-1)] j = some (.int kk) := by
        rcases (by omega : j = 0 ∨ j = 1) with rfl | rfl
        · exact ⟨1, .inl rfl, rfl⟩
        · exact ⟨-1, .inr rfl, rfl⟩
      have fo : ∀ e ∈ [d], e.fit := fun e he => by rw [List.mem_singleton.mp he]; exact fd
      refine ⟨L, _, j, _, rfl, rfl, SqL.of eL13, ek, _, rfl, R0, _, kk, rfl, rfl, hk, SqL.of eR13, fun R nR => ?_⟩
      have q3 := same_upd (o := .lst (wayV [V.ref one, .ref O] kk)) nR
      have wR := w13b.same q3
      have nRH : H R = none := w13b.free nR
      have pA2 := pA.same q3
      have pB2 := pB.same q3
      obtain ⟨i1, i2⟩ := few_in (y := d.isPush) inO
      rcases hk with rfl | rfl
      · refine fin R [[d], ds] _ wR nRH ⟨[one, O], upd_same, .cons pA2 (.cons pB2 .nil)⟩ ⟨by show 1 ≤ 2; decide, by show 2 ≤ 3; decide, fun es hes => ?_⟩ rfl i1
        simp only [List.mem_cons, List.not_mem_nil, or_false] at hes
        rcases hes with z | z
        · rw [z]; exact ⟨by show 1 ≤ 4; decide, fo⟩
        · rw [z]; exact ⟨dl, df⟩
      · refine fin R [ds, [d]] _ wR nRH ⟨[O, one], upd_same, .cons pB2 (.cons pA2 .nil)⟩ ⟨by show 1 ≤ 2; decide, by show 2 ≤ 3; decide, fun es hes => ?_⟩ rfl i2
        simp only [List.mem_cons, List.not_mem_nil, or_false] at hes
        rcases hes with z | z
        · rw [z]; exact ⟨dl, df⟩
        · rw [z]; exact ⟨by show 1 ≤ 4; decide, fo⟩
end
end Sk


namespace Sk
open PySem PySem.Spec PyProof.Rows L2
/-- over a range object that has a name -/
def iRngO (tl : TE) : TI := fun σ H R => tl σ H fun x H1 => ∃ (a : Addr) (lo hi : Int), x = .ref a ∧ H1 a = some (.rng lo hi) ∧ (-(2 ^ 62) ≤ lo ∧ lo < 2 ^ 62 ∧ -(2 ^ 62) ≤ hi ∧ hi < 2 ^ 62) ∧ R (Itr lo (hi - lo).toNat) H1
section
variable {X : Cx} {tg : Expr}
theorem pi_rng {l : Expr} {tl : TE} (hl : PE X l tl) : PI X tg l (iRngO tl) := by
  refine ⟨fun pins s σ H R I h => ?_⟩
  refine thn (hl.run pins s σ H _ I h) fun v s1 ⟨x, H1, I1, r1, q1⟩ => ?_
  obtain ⟨a, lo, hi, e, ha, ⟨h1, h2, h3, h4⟩, q⟩ := q1
  subst e
  cases r1
  obtain ⟨t, u, v, ho⟩ := I1.hok a _ ha
  refine wpAny_pyIter_range (show IsRange s1.heap a lo hi 1 t u v from ho) (small_one h1 h2 h3 h4) ?_
  refine ⟨s1.heap.objs.size, [s1.heap.objs.size], _, _, H1, rfl, I1.kept (t' := s1.toks) fun b o e => Heap.get?_push_of_some _ e, turn_range _ lo (hi - lo).toNat, ?_, fun b hb => ?_, q⟩
  · have e1 : lo + ((0 : Nat) : Int) * 1 = lo := by simp
    have e2 : (((hi - lo).toNat : Nat) : Int) - ((0 : Nat) : Int) = Builtin.Range.rangeSize lo hi 1 := by rw [rangeSize_one]; split <;> omega
    show IsRangeIter _ _ (lo + ((0 : Nat) : Int) * 1) ((((hi - lo).toNat : Nat) : Int) - ((0 : Nat) : Int)) 1
    rw [e1, e2]
    exact Heap.get?_push_size _ rfl
  · have e : b = s1.heap.objs.size := by simpa using hb
    subst e
    exact I1.fpOk (Nat.le_refl _) (I1.hok.fresh (Nat.le_refl _))
/-- range(i, j) as a value -/
def rRange2 : List V → Hp → VK → Prop := fun vs H Q => ∃ i j, vs = [V.int i, V.int j] ∧ ∀ p, H p = none → Q (.ref p) (upd H p (.rng i j))
theorem call_range2 : CallR X (.type "range") rRange2 := cr_range2
end
end Sk


/-! A value's own lists: what may be spoilt of it. -/
namespace Sk
open PySem PySem.Spec PyProof.Rows L2
/-- no list, no tuple -/
inductive Scl : V → Prop
  | non : Scl .non
  | bl (b : Bool) : Scl (.bl b)
  | int (i : Int) : Scl (.int i)
  | str (x : Str) : Scl (.str x)
inductive OwnAll (R : V → List Addr → Prop) : List V → List Addr → Prop
  | nil : OwnAll R [] []
  | cons {x : V} {xs : List V} {as bs : List Addr} (h : R x as) (hs : OwnAll R xs bs) : OwnAll R (x :: xs) (as ++ bs)
/-- the lists of a value, by their addresses -/
def Own (H : Hp) : Nat → V → List Addr → Prop
  | 0, _, _ => False
  | n + 1, v, as => (Scl v ∧ as = []) ∨ (∃ a xs bs, v = .ref a ∧ H a = some (.lst xs) ∧ xs.length ≤ 10000 ∧ OwnAll (Own H n) xs bs ∧ as = a :: bs) ∨ (∃ a xs, v = .ref a ∧ H a = some (.tup xs) ∧ OwnAll (Own H n) xs as)
/-- all but these is kept -/
def Chg (as : List Addr) (H H' : Hp) : Prop := ∀ c u, c ∉ as → H c = some u → H' c = some u
theorem Chg.refl {as : List Addr} {H : Hp} : Chg as H H := fun _ _ _ e => e
theorem OwnAll.mono {R S : V → List Addr → Prop} : ∀ {xs : List V} {bs : List Addr}, (∀ x as, (∀ a ∈ as, a ∈ bs) → R x as → S x as) → OwnAll R xs bs → OwnAll S xs bs
  | _, _, _, .nil => .nil
  | _, _, k, .cons h hs => .cons (k _ _ (fun a ha => List.mem_append_left _ ha) h) (hs.mono fun x as s r => k x as (fun a ha => List.mem_append_right _ (s a ha)) r)
theorem own_lists {H : Hp} : ∀ {n : Nat} {v : V} {as : List Addr}, Own H n v as → ∀ a ∈ as, ∃ l, H a = some (.lst l)
  | 0, _, _, h => h.elim
  | n + 1, v, as, h => by
    have all : ∀ {xs : List V} {bs : List Addr}, OwnAll (Own H n) xs bs → ∀ a ∈ bs, ∃ l, H a = some (.lst l) := by
      intro xs bs o
      induction o with
      | nil => intro a z; cases z
      | cons h hs ih =>
        intro a ha
        rcases List.mem_append.mp ha with q | q
        · exact own_lists h a q
        · exact ih a q
    rcases h with ⟨_, rfl⟩ | ⟨a, xs, bs, _, e, _, o, rfl⟩ | ⟨a, xs, _, e, o⟩
    · intro a z; cases z
    · intro b hb
      rcases List.mem_cons.mp hb with rfl | q
      · exact ⟨_, e⟩
      · exact all o b q
    · exact all o
theorem own_chg {H H' : Hp} {bs : List Addr} (c : Chg bs H H') (lb : ∀ b ∈ bs, ∃ l, H b = some (.lst l)) : ∀ {n : Nat} {v : V} {as : List Addr}, (∀ a ∈ as, a ∉ bs) → Own H n v as → Own H' n v as
  | 0, _, _, _, h => h.elim
  | n + 1, v, as, d, h => by
    rcases h with ⟨s, rfl⟩ | ⟨a, xs, cs, ev, e, l, o, rfl⟩ | ⟨a, xs, ev, e, o⟩
    · exact .inl ⟨s, rfl⟩
    · exact .inr (.inl ⟨a, xs, cs, ev, c a _ (d a List.mem_cons_self) e, l, o.mono fun x as s r => own_chg c lb (fun b hb => d b (List.mem_cons_of_mem _ (s b hb))) r, rfl⟩)
    · refine .inr (.inr ⟨a, xs, ev, c a _ (fun z => ?_) e, o.mono fun x as s r => own_chg c lb (fun b hb => d b (s b hb)) r⟩)
      obtain ⟨l, q⟩ := lb a z
      rw [e] at q
      cases q
theorem Own.same {H H' : Hp} (s : Same H H') {n : Nat} {v : V} {as : List Addr} (h : Own H n v as) : Own H' n v as := own_chg (bs := []) (fun c u _ e => s c u e) (fun b z => by cases z) (fun a _ z => by cases z) h
theorem Own.sc {H : Hp} {n : Nat} {v : V} (h : Scl v) : Own H (n + 1) v [] := .inl ⟨h, rfl⟩
theorem OwnAll.scs {H : Hp} {n : Nat} : ∀ {xs : List V}, (∀ x ∈ xs, Scl x) → OwnAll (Own H (n + 1)) xs []
  | [], _ => .nil
  | x :: xs, h => OwnAll.cons (as := []) (.sc (h x List.mem_cons_self)) (OwnAll.scs fun y hy => h y (List.mem_cons_of_mem _ hy))
theorem Own.flat {H : Hp} {n : Nat} {a : Addr} {xs : List V} (e : H a = some (.lst xs)) (l : xs.length ≤ 10000) (h : ∀ x ∈ xs, Scl x) : Own H (n + 2) (.ref a) [a] := .inr (.inl ⟨a, xs, [], rfl, e, l, .scs h, rfl⟩)
theorem Own.flatT {H : Hp} {n : Nat} {a : Addr} {xs : List V} (e : H a = some (.tup xs)) (h : ∀ x ∈ xs, Scl x) : Own H (n + 2) (.ref a) [] := .inr (.inr ⟨a, xs, rfl, e, .scs h⟩)
theorem OwnAll.none {R : V → List Addr → Prop} : ∀ {xs : List V}, (∀ x ∈ xs, R x []) → OwnAll R xs []
  | [], _ => .nil
  | x :: xs, h => OwnAll.cons (as := []) (h x List.mem_cons_self) (OwnAll.none fun y hy => h y (List.mem_cons_of_mem _ hy))
theorem OwnAll.ones {R : V → List Addr → Prop} : ∀ {qs : List Addr}, (∀ q ∈ qs, R (.ref q) [q]) → OwnAll R (qs.map V.ref) qs
  | [], _ => .nil
  | q :: qs, h => OwnAll.cons (as := [q]) (h q List.mem_cons_self) (OwnAll.ones fun y hy => h y (List.mem_cons_of_mem _ hy))
theorem OwnAll.app {R : V → List Addr → Prop} : ∀ {xs ys : List V} {as bs : List Addr}, OwnAll R xs as → OwnAll R ys bs → OwnAll R (xs ++ ys) (as ++ bs)
  | _, _, _, _, .nil, h => h
  | _, _, _, _, .cons x xs, h => by
    rw [List.append_assoc]
    exact .cons x (OwnAll.app xs h)
/-- what is new over F, each once -/
structure Fresh (F : Hp) (as : List Addr) : Prop where
  nd : as.Nodup
  no : ∀ a ∈ as, F a = none
/-- one after another -/
theorem Fresh.app {F G : Hp} {as bs : List Addr} (s : Same F G) (x : Fresh F as) (st : ∀ a ∈ as, ∃ u, G a = some u) (y : Fresh G bs) : Fresh F (as ++ bs) := by
  refine ⟨List.nodup_append.mpr ⟨x.nd, y.nd, fun a ha b hb e => ?_⟩, fun a ha => ?_⟩
  · subst e
    obtain ⟨u, q⟩ := st a ha
    rw [y.no a hb] at q
    cases q
  · rcases List.mem_append.mp ha with q | q
    · exact x.no a q
    · exact s.free (y.no a q)
theorem Fresh.nil {F : Hp} : Fresh F [] := ⟨.nil, fun a z => by cases z⟩
theorem Fresh.one {F : Hp} {a : Addr} (n : F a = none) : Fresh F [a] := ⟨List.nodup_cons.mpr ⟨by simp, .nil⟩, fun b hb => by rw [List.mem_singleton.mp hb]; exact n⟩
/-- new over F: what stood in F stands -/
theorem Chg.same {F H H' : Hp} {as : List Addr} (c : Chg as H H') (f : ∀ a ∈ as, F a = none) (s : Same F H) : Same F H' := fun x u e => c x u (fun z => by rw [f x z] at e; cases e) (s x u e)
/-- what stands in H' and not in H, and what can't be written, is kept -/
def KeepsN (D : Addr → Prop) (H H' H2 : Hp) : Prop := (∀ c xs, H' c = some (.tup xs) → H2 c = some (.tup xs)) ∧ ∀ a o, ¬ D a → H a = none → H' a = some o → H2 a = some o
/-- a list through in two -/
inductive Run (R : V → List Addr → Prop) (xs : List V) (bs : List Addr) (i : Nat) (ds rs : List Addr) : Prop
  | mk (e : bs = ds ++ rs) (h : OwnAll R (xs.drop i) rs)
theorem Run.step {R : V → List Addr → Prop} {xs : List V} {bs : List Addr} {i : Nat} {ds rs : List Addr} (r : Run R xs bs i ds rs) {x : V} (e : xs[i]? = some x) : ∃ as rs', rs = as ++ rs' ∧ R x as ∧ Run R xs bs (i + 1) (ds ++ as) rs' := by
  obtain ⟨e1, h⟩ := r
  obtain ⟨li, ex⟩ := List.getElem?_eq_some_iff.mp e
  rw [List.drop_eq_getElem_cons li, ex] at h
  cases h with
  | @cons _ _ as bs' h hs => exact ⟨as, bs', rfl, h, by rw [e1, List.append_assoc], hs⟩
end Sk


/-! A copy of what was told, and its spoiling. -/
namespace Sk
open PySem PySem.Spec PyProof.Rows L2
structure TxCp (mg : Str → Option Value) : Prop where
  isinstance : mg "isinstance" = none
  list : mg "list" = none
  tuple : mg "tuple" = none
/-- a list or a tuple walked -/
def iSeq (K : PySem.W.Frag) (tl : TE) : TI := fun σ H R => tl σ H fun x H1 => ∃ a, x = .ref a ∧ (((∃ xs, SqL K H1 a xs) ∧ R (Itl K a) H1) ∨ ((∃ xs, SqT K H1 a xs) ∧ R (Itt K a) H1))
theorem pi_seq {X : Cx} {tg l : Expr} {tl : TE} (hl : PE X l tl) : PI X tg l (iSeq X.K tl) := by
  refine ⟨fun pins s σ H R I h => ?_⟩
  refine thn (hl.run pins s σ H _ I h) fun v s1 ⟨x, H1, I1, r1, q1⟩ => ?_
  obtain ⟨a, e, q⟩ := q1
  subst e
  cases r1
  rcases q with ⟨⟨xs, hq⟩, q⟩ | ⟨⟨xs, hq⟩, q⟩
  · obtain ⟨its, rv, p, hz⟩ := I1.list hq
    refine wpAny_pyIter_list p.isList ?_
    refine ⟨s1.heap.objs.size, [s1.heap.objs.size], _, _, H1, rfl, I1.kept (t' := s1.toks) fun b o e => Heap.get?_push_of_some _ e, turn_list a _, ⟨_, Heap.get?_push_size _ rfl, rfl, rfl⟩, fun b hb => ?_, q⟩
    have e : b = s1.heap.objs.size := by simpa using hb
    subst e
    exact I1.fpOk (Nat.le_refl _) (I1.hok.fresh (Nat.le_refl _))
  · obtain ⟨its, rv, p, hz⟩ := I1.tuple hq
    refine wpAny_pyIter_tuple (show s1.heap.IsTuple a its.toArray from p) ?_
    refine ⟨s1.heap.objs.size, [s1.heap.objs.size], _, _, H1, rfl, I1.kept (t' := s1.toks) fun b o e => Heap.get?_push_of_some _ e, turn_tuple a _, ⟨_, Heap.get?_push_size _ rfl, rfl, rfl⟩, fun b hb => ?_, q⟩
    have e : b = s1.heap.objs.size := by simpa using hb
    subst e
    exact I1.fpOk (Nat.le_refl _) (I1.hok.fresh (Nat.le_refl _))
abbrev noneA : Addr → Prop := fun _ => False
/-- a copy: it stands as long as what is new stands -/
def spCopied (K : PySem.W.Frag) (n : Nat) : Sp := fun vs H Q _ => ∃ (v : V) (d : PyData), vs = [v] ∧ Dp K H v d ∧ Fits n d ∧ ∀ v' H', Same H H' → (∀ H2, KeepsN noneA H H' H2 → Dp K H2 v' d) → Q v' H'
def spSpoil (K : PySem.W.Frag) (n : Nat) : Sp := fun vs H Q _ => ∃ (v : V) (as : List Addr), vs = [v] ∧ Own H n v as ∧ as.Nodup ∧ ∀ H', Chg as H H' → Q .non H'
mutual
theorem dp_same {K : PySem.W.Frag} {H H' : Hp} (s : Same H H') : ∀ {v : V} {d : PyData}, Dp K H v d → Dp K H' v d
  | _, _, .non => .non
  | _, _, .bl b => .bl b
  | _, _, .int i => .int i
  | _, _, .str x => .str x
  | _, _, .lst h a => .lst (s.seq h) (dpAll_same s a)
  | _, _, .tup h a => .tup (same_tup s h) (dpAll_same s a)
theorem dpAll_same {K : PySem.W.Frag} {H H' : Hp} (s : Same H H') : ∀ {vs : List V} {ds : List PyData}, DpAll K H vs ds → DpAll K H' vs ds
  | _, _, .nil => .nil
  | _, _, .cons x xs => .cons (dp_same s x) (dpAll_same s xs)
end
theorem dpAll_app {K : PySem.W.Frag} {H : Hp} : ∀ {xs : List V} {ds : List PyData} {ys : List V} {es : List PyData}, DpAll K H xs ds → DpAll K H ys es → DpAll K H (xs ++ ys) (ds ++ es)
  | [], [], _, _, .nil, h => h
  | _ :: _, _ :: _, _, _, .cons x xs, h => .cons x (dpAll_app xs h)
theorem own_listsA {H : Hp} {n : Nat} {xs : List V} {bs : List Addr} (o : OwnAll (Own H n) xs bs) : ∀ a ∈ bs, ∃ l, H a = some (.lst l) := by
  induction o with
  | nil => intro a z; cases z
  | cons h hs ih =>
    intro a ha
    rcases List.mem_append.mp ha with q | q
    · exact own_lists h a q
    · exact ih a q
theorem notup {H : Hp} {bs : List Addr} {a : Addr} {xs : List V} (l : ∀ a ∈ bs, ∃ l, H a = some (.lst l)) (e : H a = some (.tup xs)) : a ∉ bs := fun m => by
  obtain ⟨l, q⟩ := l a m
  rw [e] at q
  cases q
theorem keepsA {H H6 H7 H2 : Hp} {D : Addr} {l l' : List V} (s7 : Same H6 H7) (eD : H7 D = some (.lst l)) (k : KeepsN (· = D) H (upd H7 D (.lst l')) H2) : KeepsN (· = D) H H6 H2 :=
  ⟨fun c xs e => k.1 c xs (by rw [upd_ne (ne_of (s7 _ _ e) eD (by intro z; cases z))]; exact s7 _ _ e), fun a o n h e => k.2 a o n h (by rw [upd_ne n]; exact s7 _ _ e)⟩
theorem keepsB {H H6 H7 H2 : Hp} {D : Addr} {l l' : List V} {u : HO} (s6 : Same H H6) (e6 : H6 D = some u) (eD : H7 D = some (.lst l)) (k : KeepsN (· = D) H (upd H7 D (.lst l')) H2) : KeepsN noneA H6 H7 H2 :=
  ⟨fun c xs e => k.1 c xs (by rw [upd_ne (ne_of e eD (by intro z; cases z))]; exact e), fun a o _ h e => by
    have n : a ≠ D := (ne_of_none e6 h).symm
    exact k.2 a o n (s6.free h) (by rw [upd_ne n]; exact e)⟩
theorem scSpoil : FnScope ["_law_found", "_law_part"] ["_law_found"] (defScope s_law_spoil) := ⟨rfl, rfl, rfl, by decide +kernel, rfl, by decide +kernel, by decide +kernel⟩
theorem scCopied : FnScope ["_law_found", "_law_one"] ["_law_found"] (defScope s_law_copied) := ⟨rfl, rfl, rfl, by decide +kernel, rfl, by decide +kernel, by decide +kernel⟩
section
variable {P : Program} {w : World} {K : PySem.W.Frag} {mg : Str → Option Value} {base : Heap} {f : Addr} {fd : FuncData}
theorem scl_ty {H : Hp} {v : V} (h : Scl v) : ∃ t, TyX K H v (.type t) ∧ (t = "NoneType" ∨ t = "bool" ∨ t = "int" ∨ t = "str") := by
  cases h with
  | non => exact ⟨_, .base .non, .inl rfl⟩
  | bl b => exact ⟨_, .base (.bl b), .inr (.inl rfl)⟩
  | int i => exact ⟨_, .base (.int i), .inr (.inr (.inl rfl))⟩
  | str x => exact ⟨_, .base (.str x), .inr (.inr (.inr rfl))⟩
theorem ok_spoil (F : FnP K "_law_spoil" "_law_spoil" s_law_spoil f fd) (T : TxCp mg) (g : mg "_law_spoil" = some (.ref f)) : ∀ n, FnOk P w K mg base CX0 (n + 1) f fd ["_law_found"] (spSpoil K n)
  | 0 => by
    refine fok F scSpoil (fun vs H Q E h => ?_) (fun cdv A outer s H vs Q E hr h => ?_)
    · obtain ⟨v, as, rfl, z, _⟩ := h
      rfl
    · obtain ⟨v, as, _, z, _⟩ := h
      exact z.elim
  | n + 1 => by
    have G : FnOk P w K mg base CX0 (n + 1) f fd ["_law_found"] (spSpoil K n) := ok_spoil F T g n
    have b : Binds K fd ["_law_found"] [] := F.bindsN fun _ _ _ _ _ _ us hl => match us, hl with | [_], _ => rfl
    refine fok F scSpoil (fun vs H Q E h => ?_) (fun cdv A outer s H vs Q E hr h => ?_)
    · obtain ⟨v, as, rfl, _⟩ := h
      rfl
    · obtain ⟨v, as, rfl, ow, nd, fin⟩ := h
      refine ⟨_, (pss_cons
    (ps_if (PW.pt (pw_or (pt_val (pe_callB call_isi (by rfl) T.isinstance boot_isinstance (pa_cons (pv 0) (pa_cons (pe_bltn (v := .ty "tuple") (by rfl) T.tuple (by decide +kernel) rfl) pa_nil)))) (pw_or1 (pt_val (pe_callB call_isi (by rfl) T.isinstance boot_isinstance (pa_cons (pv 0) (pa_cons (pe_bltn (v := .ty "list") (by rfl) T.list (by decide +kernel) rfl) pa_nil))))))) (pss_one (ps_for PassesOwn.never rfl (pi_seq (pv 0)) (pg_name (i := 1) scSpoil.nd rfl (.inl rfl)) (pss_one (ps_expr (pe_call G hr (by rfl) g F.kp b .nil pass0 (pa_cons (pv 1) pa_nil)))))) pss_nil) (pss_one
    (ps_if (pt_val (pe_callB call_isi (by rfl) T.isinstance boot_isinstance (pa_cons (pv 0) (pa_cons (pe_bltn (v := .ty "list") (by rfl) T.list (by decide +kernel) rfl) pa_nil)))) (pss_one (ps_expr (pe_bm PySem.F.plainAttrs_list PySem.F.slot_list_append PySem.F.type_list_append mt_append (pv 0) (pa_cons (pe_un un_neg pe_int) pa_nil)))) pss_nil))), ?_⟩
      rcases ow with ⟨sc, rfl⟩ | ⟨a, xs, bs, rfl, e, ln, o, rfl⟩ | ⟨a, xs, rfl, e, o⟩
      · obtain ⟨t, ty, tt⟩ := scl_ty (K := K) (H := H) sc
        rcases tt with rfl | rfl | rfl | rfl <;>
        · refine ⟨_, rfl, _, _, _, _, _, rfl, .ty _, ty, kit_ty (r := false) (by decide +kernel), _, rfl, iteF ?_⟩
          refine ⟨_, rfl, _, _, _, _, _, rfl, .ty _, ty, kit_ty (r := false) (by decide +kernel), _, rfl, iteF ?_⟩
          refine ⟨_, rfl, _, _, _, _, _, rfl, .ty _, ty, kit_ty (r := false) (by decide +kernel), _, rfl, iteF ?_⟩
          exact fin H .refl
      · have ty : TyX K H (.ref a) (.type "list") := .base (.lst e)
        refine ⟨_, rfl, _, _, _, _, _, rfl, .ty _, ty, kit_ty (r := false) (by decide +kernel), _, rfl, iteF ?_⟩
        refine ⟨_, rfl, _, _, _, _, _, rfl, .ty _, ty, kit_ty (r := true) (by decide +kernel), _, rfl, iteT ?_⟩
        have nd2 := (List.nodup_cons.mp nd)
        refine ⟨_, rfl, a, rfl, .inl ⟨⟨_, SqL.of e⟩, for_list (K := K) (a := a) (xs := xs) (fun i σ H' => (∃ u : Option V, σ = [some (.ref a), u]) ∧ ∃ ds rs, Run (Own H n) xs bs i ds rs ∧ Chg ds H H') ⟨⟨none, rfl⟩, [], bs, ⟨rfl, by rw [List.drop_zero]; exact o⟩, .refl⟩ (fun i σ H' _ z => ?_) ?_ ?_⟩⟩
        · obtain ⟨_, ds, rs, r, c⟩ := z
          obtain ⟨eb, _⟩ := r
          exact SqL.of (c a _ (fun m => nd2.1 (by rw [eb]; exact List.mem_append_left _ m)) e)
        · rintro i x σ H' hi ⟨⟨u, rfl⟩, ds, rs, r, c⟩
          obtain ⟨as, rs', e1, ox, r'⟩ := r.step hi
          obtain ⟨eb, _⟩ := r
          have ls := own_listsA o
          have nb := nd2.2
          rw [eb, e1] at nb
          have dj : ∀ y ∈ as, y ∉ ds := fun y hy m => (List.nodup_append.mp nb).2.2 y m y (List.mem_append_left _ hy) rfl
          refine ⟨_, rfl, x, as, rfl, own_chg c (fun y hy => ls y (by rw [eb]; exact List.mem_append_left _ hy)) dj ox, (List.nodup_append.mp (List.nodup_append.mp nb).2.1).1, fun H2 c2 => ⟨⟨_, rfl⟩, ds ++ as, rs', r', fun y v hy ey => ?_⟩⟩
          exact c2 y v (fun m => hy (List.mem_append_right _ m)) (c y v (fun m => hy (List.mem_append_left _ m)) ey)
        · rintro σ H' ⟨⟨u, rfl⟩, ds, rs, r, c⟩
          obtain ⟨eb, _⟩ := r
          have e' := c a _ (fun m => nd2.1 (by rw [eb]; exact List.mem_append_left _ m)) e
          have ty' : TyX K H' (.ref a) (.type "list") := .base (.lst e')
          refine ⟨_, rfl, _, _, _, _, _, rfl, .ty _, ty', kit_ty (r := true) (by decide +kernel), _, rfl, iteT ?_⟩
          refine ⟨_, rfl, .inl ⟨rfl, _, SqL.of e'⟩, _, rfl, a, _, _, rfl, rfl, e', by rw [sizeLine_eq]; omega, fin _ fun y v hy ey => ?_⟩
          rw [upd_ne (fun z => hy (by rw [z]; exact List.mem_cons_self))]
          exact c y v (fun m => hy (List.mem_cons_of_mem _ (by rw [eb]; exact List.mem_append_left _ m))) ey
      · have ty : TyX K H (.ref a) (.type "tuple") := .base (.tup e)
        refine ⟨_, rfl, _, _, _, _, _, rfl, .ty _, ty, kit_ty (r := true) (by decide +kernel), _, rfl, iteT ?_⟩
        refine ⟨_, rfl, a, rfl, .inr ⟨⟨_, SqT.of e⟩, for_tup (K := K) (a := a) (xs := xs) (fun i σ H' => (∃ u : Option V, σ = [some (.ref a), u]) ∧ ∃ ds rs, Run (Own H n) xs as i ds rs ∧ Chg ds H H') ⟨⟨none, rfl⟩, [], as, ⟨rfl, by rw [List.drop_zero]; exact o⟩, .refl⟩ (fun i σ H' _ z => ?_) ?_ ?_⟩⟩
        · obtain ⟨_, ds, rs, r, c⟩ := z
          obtain ⟨eb, _⟩ := r
          exact SqT.of (c a _ (fun m => notup (own_listsA o) e (by rw [eb]; exact List.mem_append_left _ m)) e)
        · rintro i x σ H' hi ⟨⟨u, rfl⟩, ds, rs, r, c⟩
          obtain ⟨as', rs', e1, ox, r'⟩ := r.step hi
          obtain ⟨eb, _⟩ := r
          have ls := own_listsA o
          have nb := nd
          rw [eb, e1] at nb
          have dj : ∀ y ∈ as', y ∉ ds := fun y hy m => (List.nodup_append.mp nb).2.2 y m y (List.mem_append_left _ hy) rfl
          refine ⟨_, rfl, x, as', rfl, own_chg c (fun y hy => ls y (by rw [eb]; exact List.mem_append_left _ hy)) dj ox, (List.nodup_append.mp (List.nodup_append.mp nb).2.1).1, fun H2 c2 => ⟨⟨_, rfl⟩, ds ++ as', rs', r', fun y v hy ey => ?_⟩⟩
          exact c2 y v (fun m => hy (List.mem_append_right _ m)) (c y v (fun m => hy (List.mem_append_left _ m)) ey)
        · rintro σ H' ⟨⟨u, rfl⟩, ds, rs, r, c⟩
          obtain ⟨eb, _⟩ := r
          have e' := c a _ (fun m => notup (own_listsA o) e (by rw [eb]; exact List.mem_append_left _ m)) e
          have ty' : TyX K H' (.ref a) (.type "tuple") := .base (.tup e')
          refine ⟨_, rfl, _, _, _, _, _, rfl, .ty _, ty', kit_ty (r := false) (by decide +kernel), _, rfl, iteF ?_⟩
          exact fin _ fun y v hy ey => c y v (fun m => hy (by rw [eb]; exact List.mem_append_left _ m)) ey
theorem ok_copied (F : FnP K "_law_copied" "_law_copied" s_law_copied f fd) (T : TxCp mg) (g : mg "_law_copied" = some (.ref f)) : ∀ n, FnOk P w K mg base CX0 (n + 1) f fd ["_law_found"] (spCopied K n)
  | 0 => by
    refine fok F scCopied (fun vs H Q E h => ?_) (fun cdv A outer s H vs Q E hr h => ?_)
    · obtain ⟨v, d, rfl, _⟩ := h
      rfl
    · obtain ⟨v, d, _, _, z, _⟩ := h
      cases z
  | n + 1 => by
    have G : FnOk P w K mg base CX0 (n + 1) f fd ["_law_found"] (spCopied K n) := ok_copied F T g n
    have b : Binds K fd ["_law_found"] [] := F.bindsN fun _ _ _ _ _ _ us hl => match us, hl with | [_], _ => rfl
    refine fok F scCopied (fun vs H Q E h => ?_) (fun cdv A outer s H vs Q E hr h => ?_)
    · obtain ⟨v, d, rfl, _⟩ := h
      rfl
    · obtain ⟨v, d, rfl, dx, z, fin⟩ := h
      refine ⟨_, (pss_cons
    (ps_if (pt_val (pe_callB call_isi (by rfl) T.isinstance boot_isinstance (pa_cons (pv 0) (pa_cons (pe_bltn (v := .ty "list") (by rfl) T.list (by decide +kernel) rfl) pa_nil)))) (pss_one (ps_ret (pe_lc (own := [("_law_one", 1)]) (g := gName 1) (tt := tYes) rfl scCopied.nd (pi_seq (pv 0)) (blkOk_by (N := (["_law_found", "_law_one"])) (sc := defScope s_law_copied) (by decide +kernel)) (fun _ _ _ _ _ => pg_name (i := 1) scCopied.nd rfl (Or.inl rfl)) (fun _ _ _ _ _ => pts_nil) (fun _ _ _ _ _ => (pe_call G hr (by rfl) g F.kp b .nil pass0 (pa_cons (pv 1) pa_nil)))))) pss_nil) (pss_cons
    (ps_if (pt_val (pe_callB call_isi (by rfl) T.isinstance boot_isinstance (pa_cons (pv 0) (pa_cons (pe_bltn (v := .ty "tuple") (by rfl) T.tuple (by decide +kernel) rfl) pa_nil)))) (pss_one (ps_ret (pe_callTy call_tuple_of (by rfl) T.tuple (by decide +kernel) (pa_cons (pe_lc (own := [("_law_one", 1)]) (g := gName 1) (tt := tYes) rfl scCopied.nd (pi_seq (pv 0)) (blkOk_by (N := (["_law_found", "_law_one"])) (sc := defScope s_law_copied) (by decide +kernel)) (fun _ _ _ _ _ => pg_name (i := 1) scCopied.nd rfl (Or.inl rfl)) (fun _ _ _ _ _ => pts_nil) (fun _ _ _ _ _ => (pe_call G hr (by rfl) g F.kp b .nil pass0 (pa_cons (pv 1) pa_nil)))) pa_nil)))) pss_nil) (pss_one
    (ps_ret (pv 0))))), ?_⟩
      have tx := dp_ty dx
      have plain : ∀ t, TyX K H v (.type t) → (t = "NoneType" ∨ t = "bool" ∨ t = "int" ∨ t = "str") → (∀ H2, Dp K H2 v d) → Q v H := fun _ _ _ k => fin v H (.refl _) fun H2 _ => k H2
      cases z with
      | non =>
        cases dx
        have ty : TyX K H _ (.type "NoneType") := tx
        refine ⟨_, rfl, _, _, _, _, _, rfl, .ty _, ty, kit_ty (r := false) (by decide +kernel), _, rfl, iteF ?_⟩
        refine ⟨_, rfl, _, _, _, _, _, rfl, .ty _, ty, kit_ty (r := false) (by decide +kernel), _, rfl, iteF ⟨_, rfl, ?_⟩⟩
        exact fin _ H (.refl _) fun H2 _ => .non
      | bl _ c =>
        cases dx
        have ty : TyX K H _ (.type "bool") := tx
        refine ⟨_, rfl, _, _, _, _, _, rfl, .ty _, ty, kit_ty (r := false) (by decide +kernel), _, rfl, iteF ?_⟩
        refine ⟨_, rfl, _, _, _, _, _, rfl, .ty _, ty, kit_ty (r := false) (by decide +kernel), _, rfl, iteF ⟨_, rfl, ?_⟩⟩
        exact fin _ H (.refl _) fun H2 _ => .bl c
      | int _ c =>
        cases dx
        have ty : TyX K H _ (.type "int") := tx
        refine ⟨_, rfl, _, _, _, _, _, rfl, .ty _, ty, kit_ty (r := false) (by decide +kernel), _, rfl, iteF ?_⟩
        refine ⟨_, rfl, _, _, _, _, _, rfl, .ty _, ty, kit_ty (r := false) (by decide +kernel), _, rfl, iteF ⟨_, rfl, ?_⟩⟩
        exact fin _ H (.refl _) fun H2 _ => .int c
      | str _ c =>
        cases dx
        have ty : TyX K H _ (.type "str") := tx
        refine ⟨_, rfl, _, _, _, _, _, rfl, .ty _, ty, kit_ty (r := false) (by decide +kernel), _, rfl, iteF ?_⟩
        refine ⟨_, rfl, _, _, _, _, _, rfl, .ty _, ty, kit_ty (r := false) (by decide +kernel), _, rfl, iteF ⟨_, rfl, ?_⟩⟩
        exact fin _ H (.refl _) fun H2 _ => .str c
      | @lst _ ds l hz =>
        cases dx with
        | @lst a xs _ hx ax =>
          have ty : TyX K H _ (.type "list") := tx
          have el := DpAll.len ax
          refine ⟨_, rfl, _, _, _, _, _, rfl, .ty _, ty, kit_ty (r := true) (by decide +kernel), _, rfl, iteT ⟨_, rfl, a, rfl, .inl ⟨⟨_, hx⟩, fun D nD => ?_⟩⟩⟩
          refine lc_list (K := K) (a := a) (xs := xs) (fun i H6 => Same H H6 ∧ ∃ vs, H6 D = some (.lst vs) ∧ vs.length = i ∧ ∀ H2, KeepsN (· = D) H H6 H2 → DpAll K H2 vs (ds.take i)) ⟨same_upd nD, [], upd_same, rfl, fun H2 _ => .nil⟩ (fun i H6 _ z => z.1.seq hx) ?_ ?_
          · rintro i x H6 hi ⟨s6, vs, eD, lv, kp⟩
            obtain ⟨d, e1, p1⟩ := DpAll.at_ ax hi
            have li := (List.getElem?_eq_some_iff.mp hi).1
            refine ⟨rfl, tyes ⟨_, rfl, x, d, rfl, dp_same s6 p1, hz _ (List.mem_of_getElem? e1), fun v' H7 s7 k7 => ⟨_, s7 _ _ eD, by rw [sizeLine_eq]; omega, sameN (s6.trans s7) nD, vs ++ [v'], upd_same, by rw [List.length_append, lv]; rfl, fun H2 k2 => ?_⟩⟩⟩
            rw [List.take_add_one, e1]
            exact dpAll_app (kp H2 (keepsA s7 (s7 _ _ eD) k2)) (.cons (k7 H2 (keepsB s6 eD (s7 _ _ eD) k2)) .nil)
          · rintro H6 ⟨s6, vs, eD, lv, kp⟩
            rw [el, List.take_length] at kp
            exact fin (.ref D) H6 s6 fun H2 k2 => .lst (SqL.of (k2.2 D _ id nD eD)) (kp H2 ⟨k2.1, fun a o _ n e => k2.2 a o id n e⟩)
      | @tup _ ds l hz =>
        cases dx with
        | @tup a xs _ hx ax =>
          have ty : TyX K H _ (.type "tuple") := tx
          have el := DpAll.len ax
          refine ⟨_, rfl, _, _, _, _, _, rfl, .ty _, ty, kit_ty (r := false) (by decide +kernel), _, rfl, iteF ?_⟩
          refine ⟨_, rfl, _, _, _, _, _, rfl, .ty _, ty, kit_ty (r := true) (by decide +kernel), _, rfl, iteT ⟨_, rfl, a, rfl, .inr ⟨⟨_, hx⟩, fun D nD => ?_⟩⟩⟩
          refine lc_tup (K := K) (a := a) (xs := xs) (fun i H6 => Same H H6 ∧ ∃ vs, H6 D = some (.lst vs) ∧ vs.length = i ∧ ∀ H2, KeepsN (· = D) H H6 H2 → DpAll K H2 vs (ds.take i)) ⟨same_upd nD, [], upd_same, rfl, fun H2 _ => .nil⟩ (fun i H6 _ z => same_tup z.1 hx) ?_ ?_
          · rintro i x H6 hi ⟨s6, vs, eD, lv, kp⟩
            obtain ⟨d, e1, p1⟩ := DpAll.at_ ax hi
            have li := (List.getElem?_eq_some_iff.mp hi).1
            refine ⟨rfl, tyes ⟨_, rfl, x, d, rfl, dp_same s6 p1, hz _ (List.mem_of_getElem? e1), fun v' H7 s7 k7 => ⟨_, s7 _ _ eD, by rw [sizeLine_eq]; omega, sameN (s6.trans s7) nD, vs ++ [v'], upd_same, by rw [List.length_append, lv]; rfl, fun H2 k2 => ?_⟩⟩⟩
            rw [List.take_add_one, e1]
            exact dpAll_app (kp H2 (keepsA s7 (s7 _ _ eD) k2)) (.cons (k7 H2 (keepsB s6 eD (s7 _ _ eD) k2)) .nil)
          · rintro H6 ⟨s6, vs, eD, lv, kp⟩
            rw [el, List.take_length] at kp
            refine ⟨D, vs, rfl, .inl ⟨SqL.of eD, fun q nq => fin (.ref q) _ (s6.trans (same_upd nq)) fun H2 k2 => .tup (SqT.of (k2.1 q _ upd_same)) (kp H2 ⟨fun c xs e => k2.1 c xs (same_upd nq _ _ e), fun a o _ n e => k2.2 a o id n (same_upd nq _ _ e)⟩)⟩⟩
end
end Sk


/-! Dicts whose keys are nested tuples. -/
namespace Sk
open PySem PySem.W PySem.Calls PyProof.Rows PyProof.V PySem.Spec L2
mutual
/-- a value that is a key -/
inductive NIs (H : Hp) : NestedKey → V → Prop
  | non : NIs H .none .non
  | int (i : Int) : NIs H (.num i) (.int i)
  | str (x : Str) : NIs H (.text x) (.str x)
  | bl (b : Bool) (i : Int) (e : i = if b = true then 1 else 0) : NIs H (.num i) (.bl b)
  | tup {a : Addr} {vs : List V} {ks : List NestedKey} : H a = some (.tup vs) → NAll H ks vs → NIs H (.tup ks) (.ref a)
inductive NAll (H : Hp) : List NestedKey → List V → Prop
  | nil : NAll H [] []
  | cons {k : NestedKey} {v : V} {ks : List NestedKey} {vs : List V} : NIs H k v → NAll H ks vs → NAll H (k :: ks) (v :: vs)
end
section
variable {P : Program} {w : World} {H H' : Hp} {h : Heap}
mutual
theorem nis_heap (ok : HOk P w H h) : ∀ (k : NestedKey) (v : V) (u : Value), NIs H k v → RelV v u → NestedIs h k u
  | .none, _, _, x, r => by
    cases x
    obtain rfl : _ = Value.none := r
    exact .none
  | .num i, _, _, x, r => by
    cases x with
    | int _ =>
      obtain ⟨t, rfl⟩ := r
      exact .int i t
    | bl b _ e =>
      obtain rfl : _ = Value.bool b := r
      exact .bool e
  | .text z, _, _, x, r => by
    cases x
    obtain ⟨t, rfl⟩ := r
    exact .text z t
  | .tup ks, _, _, x, r => by
    cases x with
    | tup e al =>
      obtain rfl : _ = Value.ref _ := r
      obtain ⟨_, its, rl, o, h1, h2, n, h3⟩ := (show ObjOk P w H h _ (.tup _) from ok _ _ e)
      exact .tup h1 h2 h3 (by simpa using nall_heap ok ks _ _ al rl)
theorem nall_heap (ok : HOk P w H h) : ∀ (ks : List NestedKey) (vs : List V) (us : List Value), NAll H ks vs → Vals vs us → NestedAll h ks us
  | [], _, _, x, r => by
    cases x
    cases r
    exact .nil
  | k :: ks, _, _, x, r => by
    cases x with
    | cons x1 x2 =>
      cases r with
      | cons r1 r2 => exact .cons (nis_heap ok k _ _ x1 r1) (nall_heap ok ks _ _ x2 r2)
end
mutual
theorem nis_mono (t : ∀ a xs, H a = some (.tup xs) → H' a = some (.tup xs)) : ∀ (k : NestedKey) (v : V), NIs H k v → NIs H' k v
  | .none, _, x => by cases x; exact .non
  | .num i, _, x => by
    cases x with
    | int _ => exact .int i
    | bl b _ e => exact .bl b i e
  | .text z, _, x => by cases x; exact .str z
  | .tup ks, _, x => by
    cases x with
    | tup e al => exact .tup (t _ _ e) (nall_mono t ks _ al)
theorem nall_mono (t : ∀ a xs, H a = some (.tup xs) → H' a = some (.tup xs)) : ∀ (ks : List NestedKey) (vs : List V), NAll H ks vs → NAll H' ks vs
  | [], _, x => by cases x; exact .nil
  | k :: ks, _, x => by
    cases x with
    | cons x1 x2 => exact .cons (nis_mono t k _ x1) (nall_mono t ks _ x2)
end
end
/-- keys, their tuples, values -/
abbrev NKv := List (NestedKey × Addr × V)
def KeysT (H : Hp) (kvs : NKv) : Prop := ∀ p ∈ kvs, NIs H p.1 (.ref p.2.1) ∧ p.1.depth ≤ 8
def KN : NKv → List (NestedKey × Addr × Value) → Prop := Paired fun p q => p.1 = q.1 ∧ p.2.1 = q.2.1 ∧ RelV p.2.2 q.2.2
def DN (P : Program) (w : World) (a : Addr) (kvs : NKv) (h : Heap) : Prop := ∃ xs, KN kvs xs ∧ kvs.length ≤ sizeLine ∧ (a == sysModules) = false ∧ ∃ o es ep, h.get? a = some o ∧ o.ExactDict ∧ o.data = .dict es ep ∧ es.toList = xs.map (entryOfKey (nestedKind P w)) ∧ (xs.map (·.1)).Nodup
def dictN (P : Program) (w : World) (a : Addr) (kvs : NKv) : HO := .ext (DN P w a kvs)
def atN : NKv → NestedKey → Option V
  | [], _ => none
  | p :: r, k => if p.1 = k then some p.2.2 else atN r k
section
variable {P : Program} {w : World} {H H' : Hp} {h h' : Heap} {a : Addr} {kvs : NKv}
theorem dn_ok (d : DN P w a kvs h) : ObjOk P w H h a (dictN P w a kvs) := by
  refine ⟨d, ?_, fun h1 h2 d1 k => ?_⟩
  · obtain ⟨_, _, _, _, o, _, _, e, _⟩ := d
    exact ⟨o, e⟩
  · obtain ⟨xs, r, l, y, o, es, ep, e, z⟩ := d1
    exact ⟨xs, r, l, y, o, es, ep, k _ e, z⟩
theorem dn_of (ok : HOk P w H h) (e : H a = some (dictN P w a kvs)) (nt : KeysT H kvs) : kvs.length ≤ sizeLine ∧ (a == sysModules) = false ∧ ∃ xs, KN kvs xs ∧ h.DictOfH (nestedKind P w) a xs := by
  obtain ⟨⟨xs, r, l, y, o, es, ep, h1, h2, h3, h4, h5⟩, _, _⟩ := (show ObjOk P w H h a (dictN P w a kvs) from ok a _ e)
  refine ⟨l, y, xs, r, o, es, ep, h1, h2, h3, h4, fun x hx => ?_, h5⟩
  have all : ∀ {l : NKv} {m : List (NestedKey × Addr × Value)}, KN l m → KeysT H l → ∀ x ∈ m, (nestedKind P w).is h x.1 x.2.1 := by
    intro l m q
    induction q with
    | nil => intro _ x hx; exact nomatch hx
    | @cons p q ps qs hq t ih =>
      intro nt x hx
      rcases List.mem_cons.mp hx with e | hx
      · subst e
        obtain ⟨n1, n2⟩ := nt p List.mem_cons_self
        rw [hq.1, hq.2.1] at n1
        rw [hq.1] at n2
        exact ⟨nis_heap ok _ _ _ n1 rfl, n2⟩
      · exact ih (fun z hz => nt z (List.mem_cons_of_mem _ hz)) x hx
  exact all r nt x hx
theorem kn_at : ∀ {kvs : NKv} {xs : List (NestedKey × Addr × Value)} (r : KN kvs xs) (k : NestedKey), RelO (atN kvs k) ((atKey xs k).map (·.2))
  | [], [], _, k => True.intro
  | p :: kvs, q :: xs, .cons r rs, k => by
    have ih := kn_at rs k
    have e : atN (p :: kvs) k = if p.1 = k then some p.2.2 else atN kvs k := rfl
    rw [e]
    unfold atKey at ih ⊢
    rw [List.find?_cons]
    by_cases z : p.1 = k
    · rw [if_pos z, decide_eq_true (by rw [← r.1]; exact z)]
      exact r.2.2
    · rw [if_neg z, decide_eq_false (by rw [← r.1]; exact z)]
      exact ih
theorem nt_mono (t : ∀ a xs, H a = some (.tup xs) → H' a = some (.tup xs)) (n : KeysT H kvs) : KeysT H' kvs := fun p hp => ⟨nis_mono t _ _ (n p hp).1, (n p hp).2⟩
end
section
variable {X : Cx} {pins : List (Addr × Obj)} {σ : L2.St} {H : Hp} {s : Shared} {a b : Addr} {v : V} {r : Value} {k : NestedKey} {kvs : NKv} {A : Around} {E : Value → Shared → Prop}
theorem room_n (hu : A.units + 9 < cLine) {P : Program} {w : World} : (nestedKind P w).room A.in1 := by
  show A.units + 1 + 8 < cLine
  omega
theorem key_n {P : Program} {w : World} {h : Heap} (ok : HOk P w H h) (n : NIs H k (.ref b)) (d : k.depth ≤ 8) : (nestedKind P w).is h k b := ⟨nis_heap ok _ _ _ n rfl, d⟩
/-- d[y], there -/
theorem d_getN {Q : Value → Shared → Prop} (hu : A.units + 9 < cLine) (I : L2.Inv X pins σ H s) (e : H a = some (dictN X.prog X.w a kvs)) (nt : KeysT H kvs) (n : NIs H k (.ref b)) (dp : k.depth ≤ 8) (l : atN kvs k = some v)
    (h : ∀ w' s', L2.Inv X pins σ H s' → RelV v w' → Q w' s') : wpAny (model X.prog X.w) A (getItem (.ref a) (.ref b)) Q E s := by
  obtain ⟨z, hd, xs, rel, dd⟩ := dn_of I.hok e nt
  obtain ⟨w', hw, rw'⟩ := RelO.some_of (v := v) (o := (atKey xs k).map (·.2)) (by rw [← l]; exact kn_at rel k)
  obtain ⟨p, hp, hp2⟩ := Option.map_eq_some_iff.mp hw
  refine wpAny_getItem_heap (room_n hu) (key_n I.hok n dp) dd hp ?_
  rw [hp2]
  exact h w' _ (I.tok _) rw'
theorem d_notInN {Q : Value → Shared → Prop} (hu : A.units + 9 < cLine) (I : L2.Inv X pins σ H s) (e : H a = some (dictN X.prog X.w a kvs)) (nt : KeysT H kvs) (n : NIs H k (.ref b)) (dp : k.depth ≤ 8)
    (h : ∀ s', L2.Inv X pins σ H s' → Q (.bool (!(atN kvs k).isSome)) s') : wpAny (model X.prog X.w) A (compareOp .NotIn (.ref b) (.ref a)) Q E s := by
  obtain ⟨z, hd, xs, rel, dd⟩ := dn_of I.hok e nt
  refine wpAny_notIn_heap (room_n hu) (key_n I.hok n dp) hd dd ?_
  have q := (kn_at rel k).isSome_eq
  rw [Option.isSome_map] at q
  rw [← q]
  exact h _ (I.tok _)
/-- d[y] = v, y not there -/
theorem d_putN {Q : Unit → Shared → Prop} (hu : A.units + 9 < cLine) (I : L2.Inv X pins σ H s) (e : H a = some (dictN X.prog X.w a kvs)) (nt : KeysT H kvs) (n : NIs H k (.ref b)) (dp : k.depth ≤ 8) (l : atN kvs k = none) (hz : kvs.length < sizeLine) (rv : RelV v r)
    (h : ∀ s', L2.Inv X pins σ (upd H a (dictN X.prog X.w a (kvs ++ [(k, b, v)]))) s' → Q () s') : wpAny (model X.prog X.w) A (setItem (.ref a) (.ref b) r) Q E s := by
  obtain ⟨z, hd, xs, rel, dd⟩ := dn_of I.hok e nt
  have hz2 : xs.length ≤ sizeLine := by rw [← Paired.length rel]; exact z
  have an : atKey xs k = none := by
    have q := (kn_at rel k).isSome_eq
    rw [l, Option.isSome_map] at q
    cases y : atKey xs k with
    | none => rfl
    | some p => rw [y] at q; cases q
  refine wpAny_setItem_heap (hsz := hz2) (room_n hu) (key_n I.hok n dp) dd fun h' dd' hs => h _ ?_
  rw [storedH_new an] at dd'
  obtain ⟨q, es, ep, hq, h2, h3, h4, _, h5⟩ := dd'
  refine d_write I (by rw [e]; exact True.intro) hs ⟨q, hq⟩ (dn_ok ⟨xs ++ [(k, b, r)], Paired.snoc rel ⟨rfl, rfl, rv⟩, by rw [List.length_append]; exact hz, hd, q, es, ep, hq, h2, h3, h4, h5⟩)
end
/-! ### readings -/
section
variable {X : Cx} {o i value e : Expr} {pos pos' : Pos} {td ty tv tk : TE}
def tNGet (P : Program) (w : World) (td ty : TE) : TE := fun σ H Q => td σ H fun x H1 => ty σ H1 fun y H2 => ∃ (a b : Addr) (kvs : NKv) (k : NestedKey) (v : V), x = .ref a ∧ y = .ref b ∧ H2 a = some (dictN P w a kvs) ∧ KeysT H2 kvs ∧ NIs H2 k (.ref b) ∧ k.depth ≤ 8 ∧ atN kvs k = some v ∧ Q v H2
def tNNotIn (P : Program) (w : World) (ty td : TE) : TE := fun σ H Q => ty σ H fun y H1 => td σ H1 fun x H2 => ∃ (a b : Addr) (kvs : NKv) (k : NestedKey), x = .ref a ∧ y = .ref b ∧ H2 a = some (dictN P w a kvs) ∧ KeysT H2 kvs ∧ NIs H2 k (.ref b) ∧ k.depth ≤ 8 ∧ Q (.bl (!(atN kvs k).isSome)) H2
def sNPut (P : Program) (w : World) (td ty tv : TE) : TS := fun D σ H => tv σ H fun v H1 => td σ H1 fun x H2 => ty σ H2 fun y H3 => ∃ (a b : Addr) (kvs : NKv) (k : NestedKey), x = .ref a ∧ y = .ref b ∧ H3 a = some (dictN P w a kvs) ∧ KeysT H3 kvs ∧ NIs H3 k (.ref b) ∧ k.depth ≤ 8 ∧ atN kvs k = none ∧ kvs.length < sizeLine ∧ D.nx σ (upd H3 a (dictN P w a (kvs ++ [(k, b, v)])))
def after1 (P : Program) (w : World) (p : Addr) (Q : VK) (x y : V) (H2 : Hp) : Prop := ∃ (b : Addr) (k : NestedKey), x = .ref b ∧ H2 p = some (dictN P w p []) ∧ NIs H2 k (.ref b) ∧ k.depth ≤ 8 ∧ Q (.ref p) (upd H2 p (dictN P w p [(k, b, y)]))
def only1 (F : V → V → Hp → Prop) : List (V × V) → Hp → Prop
  | [(x, y)], H2 => F x y H2
  | _, _ => False
def tNDisp1 (P : Program) (w : World) (tk tv : TE) : TE := fun σ H Q => ∀ p, H p = none → tk σ (upd H p (dictN P w p [])) fun x H1 => tv σ H1 fun y H2 => after1 P w p Q x y H2
theorem pe_nget (hu : X.A.units + 9 < cLine) (ho : PE X o td) (hi : PE X i ty) (hs : NoSl i) : PE X (.Subscript o i pos) (tNGet X.prog X.w td ty) := by
  refine ⟨fun pins s σ H Q I h => ?_⟩
  refine subD_of PySem.F.slot_dict_getitem.lookup hs (thn (ho.run pins s σ H _ I h) fun u s1 ⟨x, H1, I1, rx, q1⟩ => thn (hi.run pins s1 σ H1 _ I1 q1) fun iv s2 ⟨y, H2, I2, ry, a, b, kvs, k, v, ex, ey, e, nt, n, dp, l, q2⟩ => ?_)
  subst ex ey
  obtain rfl : u = Value.ref a := rx
  obtain rfl : iv = Value.ref b := ry
  obtain ⟨_, _, xs, _, dd⟩ := dn_of I2.hok e nt
  exact ⟨dd.typeIs, d_getN hu I2 e nt n dp l fun w' s3 I3 rw' => ⟨v, H2, I3, rw', q2⟩⟩
theorem pc_nnotin (hu : X.A.units + 9 < cLine) (hi : PE X i ty) (ho : PE X o td) : PC X .NotIn i o (tNNotIn X.prog X.w ty td) := by
  refine ⟨fun pins s σ H Q I h => ?_⟩
  refine thn (hi.run pins s σ H _ I h) fun iv s1 ⟨y, H1, I1, ry, q1⟩ => thn (ho.run pins s1 σ H1 _ I1 q1) fun u s2 ⟨x, H2, I2, rx, a, b, kvs, k, ex, ey, e, nt, n, dp, q2⟩ => ?_
  subst ex ey
  obtain rfl : u = Value.ref a := rx
  obtain rfl : iv = Value.ref b := ry
  exact d_notInN hu I2 e nt n dp fun s3 I3 => ⟨.bl (!(atN kvs k).isSome), H2, I3, rfl, q2⟩
theorem ps_nput (hu : X.A.units + 9 < cLine) (ho : PE X o td) (hi : PE X i ty) (hv : PE X value tv) (hs : swapsWith value (some (.Subscript o i pos')) pos.line X.env = pure false) :
    PS X (.Assign [.Subscript o i pos'] value pos) (sNPut X.prog X.w td ty tv) := by
  refine ⟨fun pins s σ H D I h => ?_⟩
  refine wpAny_Assign_Subscript (thn (hv.run pins s σ H _ I h) fun r s1 ⟨v, H1, I1, rv, q1⟩ => thn (ho.run pins s1 σ H1 _ I1 q1) fun u s2 ⟨x, H2, I2, rx, q2⟩ => thn (hi.run pins s2 σ H2 _ I2 q2) fun iv s3 ⟨y, H3, I3, ry, a, b, kvs, k, ex, ey, e, nt, n, dp, l, z, q3⟩ => ?_) hs
  subst ex ey
  obtain rfl : u = Value.ref a := rx
  obtain rfl : iv = Value.ref b := ry
  exact d_putN hu I3 e nt n dp l z rv fun s4 I4 => ⟨σ, _, I4, q3⟩
theorem dn_empty {P : Program} {w : World} {H : Hp} (h : Heap) (hb : sysModules < h.objs.size) : ObjOk P w H (h.push { cls := .type "dict", data := .dict #[] }) h.objs.size (dictN P w h.objs.size []) := by
  have ns : (h.objs.size == sysModules) = false := by
    rw [beq_eq_false_iff_ne]
    intro z
    rw [z] at hb
    exact absurd hb (Nat.lt_irrefl _)
  obtain ⟨o, es, ep, h1, h2, h3, h4, _, h5⟩ := Heap.DictOfH.new (knd := nestedKind P w) h
  exact dn_ok ⟨[], .nil, Nat.zero_le _, ns, o, es, ep, h1, h2, h3, h4, h5⟩
theorem pe_ndisp1 {k v : Expr} (hu : X.A.units + 9 < cLine) (hk : PE X k tk) (hv : PE X v tv) : PE X (.Dict [some k] [v] pos) (tNDisp1 X.prog X.w tk tv) := by
  refine ⟨fun pins s σ H Q I q => ?_⟩
  have hn := I.hok.fresh (Nat.le_refl s.heap.objs.size)
  have I1 := I.laid (a := s.heap.objs.size) (o := dictN X.prog X.w s.heap.objs.size []) (h' := s.heap.push { cls := .type "dict", data := .dict #[] }) (t' := s.toks) (fun _ _ q => Heap.get?_push_of_some _ q) (Nat.le_refl _) (dn_empty s.heap I.big)
  rw [arm_eval_Dict, zip_pairTrees [some k] [v] X.env pos rfl rfl, dictDisplay_pairs (pairTrees [some k] [v] X.env pos) (by intro z; cases z) (by show 1 < 17; decide)]
  refine wpAny_bind (wpAny_standAt (wpAny_bind (wpAny_subDictH (knd := nestedKind X.prog X.w) (by show X.A.units + 8 < cLine; omega) (by show 1 ≤ 15; decide) ?_)))
  refine thn ((pps_cons hk hv pps_nil).run pins _ σ _ (only1 (after1 X.prog X.w s.heap.objs.size Q)) I1 (q _ hn)) fun ws s2 ⟨ps, H2, I2, rel, q2⟩ => ?_
  cases rel with
  | nil => exact q2.elim
  | @cons pr pw ps' ws' r1 rs =>
    cases rs with
    | cons _ _ => exact q2.elim
    | nil =>
      obtain ⟨x, y⟩ := pr
      obtain ⟨u, r⟩ := pw
      obtain ⟨ru, rr⟩ := r1
      obtain ⟨b, kk, ex, e, n, dp, q3⟩ := (show after1 X.prog X.w s.heap.objs.size Q x y H2 from q2)
      subst ex
      have eu : u = Value.ref b := ru
      subst eu
      obtain ⟨_, hd, xs, rl, dd⟩ := dn_of I2.hok e (fun p hp => by cases hp)
      cases rl
      refine ⟨[(kk, b, r)], ⟨rfl, rfl, key_n I2.hok n dp, trivial⟩, dd, fun h' tk' dd' hs => wpAny_pure ⟨.ref s.heap.objs.size, upd H2 s.heap.objs.size (dictN X.prog X.w s.heap.objs.size [(kk, b, y)]), ?_, rfl, q3⟩⟩
      obtain ⟨qo, es, ep, hq, h2, h3, h4, _, h5⟩ := dd'
      exact d_write I2 (by rw [e]; exact True.intro) hs ⟨qo, hq⟩ (dn_ok ⟨[(kk, b, r)], .cons ⟨rfl, rfl, rr⟩ .nil, by show 1 ≤ sizeLine; decide, hd, qo, es, ep, hq, h2, h3, h4, h5⟩)
end
end Sk


namespace Sk
open PySem PySem.Spec PyProof.Rows L2
theorem room65 {k : Nat} {A : Around} (r : Room k A) : A.units + 65 < cLine := by
  have := r.un
  omega
/-- how often a datum stands in a list of data -/
def rCntD (K : PySem.W.Frag) : V → List V → Hp → VK → Prop := fun x xs H Q => ∃ (p : Addr) (y : V) (d : PyData) (es : List PyData), x = .ref p ∧ xs = [y] ∧ Dp K H (.ref p) (.list es) ∧ Dp K H y d ∧ SeqAt.shaped (.list es) = true ∧ SeqAt.shaped d = true ∧ Q (.int (es.countP fun z => PyData.eqv z d : Nat)) H
theorem mt_countD {X : Cx} (room : X.A.units + 65 < cLine) : MtR X "list.count" (rCntD X.K) := by
  intro pins sh σ H x xs v us Q I q1 q2 ⟨p, y, d, es, e1, e2, p1, p2, g1, g2, fin⟩
  subst e1 e2
  cases q1
  obtain ⟨uy, rfl, ru⟩ := q2.one
  have ⟨b1, t1⟩ := Dp.reads I d y uy p2 ru
  have lay : PyData.canLayAll0 es = true := SeqAt.canLay_of_shaped g1
  cases p1 with
  | lst hs ha =>
    have ⟨its, rv, ⟨⟨cls, dd, data, sls⟩, n, ho, hc, hdn, hdt⟩, hlen⟩ := I.list hs
    dsimp only at hc hdt
    subst hc hdt
    have ⟨as, h4⟩ := Dp.readsAll I es _ its ha rv
    have hm := SeqAt.readsAll_map es its as lay h4
    refine call_meets PySem.F.slot_list_count ⟨_, ho, rfl⟩ PySem.F.entry_list_count (PySem.F.args_list_count_2 _ _) (SeqAt.list_countAt p its.toArray n dd sls uy fun u => PyData.eqv (SeqAt.readOf sh.heap u) d) ⟨ho, SeqAt.items_eqAt (vs := its.toArray) (show ReadsAll sh.heap its.toArray.toList es as from h4) t1 lay (SeqAt.canLay_of_shaped g2) (room_in_shaped g2 room), ?_⟩
    refine ⟨.int _, H, I.tok _, ⟨sh.toks, ?_⟩, fin⟩
    have e : its.toArray.toList.countP (fun u => PyData.eqv (SeqAt.readOf sh.heap u) d) = es.countP fun z => PyData.eqv z d := by
      conv => rhs; rw [← hm]
      rw [List.countP_map]
      rfl
    show Value.int ((its.toArray.toList.countP (fun u => PyData.eqv (SeqAt.readOf sh.heap u) d) : Nat) : Int) sh.toks = _
    rw [e]
end Sk


/-! The search: its dict, the weaving that leads to a state. -/
namespace Sk
open PySem PySem.Spec PyProof.Rows L2
/-! ### a state as a key -/
def numsK (l : List Nat) : NestedKey := .tup (l.map fun n : Nat => NestedKey.num (n : Int))
def PSt.key (S : PSt) : NestedKey := .tup [.num S.top, .num S.count, numsK S.nexts, numsK S.free, .tup (S.vals.map NestedKey.num), .tup (S.hands.map fun x => numsK x.list)]
theorem nums_inj : ∀ {l m : List Nat}, l.map (fun n : Nat => NestedKey.num (n : Int)) = m.map (fun n : Nat => NestedKey.num (n : Int)) → l = m
  | [], [], _ => rfl
  | [], y :: m, e => by cases e
  | x :: l, [], e => by cases e
  | x :: l, y :: m, e => by
    rw [List.map_cons, List.map_cons] at e
    obtain ⟨e1, e2⟩ := List.cons.inj e
    have e1 := NestedKey.num.inj e1
    rw [nums_inj e2, show x = y from by omega]
theorem numsK_inj {l m : List Nat} (e : numsK l = numsK m) : l = m := nums_inj (NestedKey.tup.inj e)
theorem ints_inj : ∀ {l m : List Int}, l.map NestedKey.num = m.map NestedKey.num → l = m
  | [], [], _ => rfl
  | [], y :: m, e => by cases e
  | x :: l, [], e => by cases e
  | x :: l, y :: m, e => by
    rw [List.map_cons, List.map_cons] at e
    obtain ⟨e1, e2⟩ := List.cons.inj e
    rw [ints_inj e2, NestedKey.num.inj e1]
theorem hands_inj : ∀ {l m : List PHand}, (l.map fun x => numsK x.list) = (m.map fun x => numsK x.list) → l = m
  | [], [], _ => rfl
  | [], y :: m, e => by cases e
  | x :: l, [], e => by cases e
  | x :: l, y :: m, e => by
    rw [List.map_cons, List.map_cons] at e
    obtain ⟨e1, e2⟩ := List.cons.inj e
    have e1 := numsK_inj e1
    rw [hands_inj e2]
    obtain ⟨⟩ := x
    obtain ⟨⟩ := y
    simp only [PHand.list, List.cons.injEq, and_true] at e1
    obtain ⟨a1, a2, a3, a4, a5, a6, a7⟩ := e1
    subst a1 a2 a3 a4 a5 a6 a7
    rfl
theorem key_inj {S R : PSt} (e : S.key = R.key) : S = R := by
  have e := NestedKey.tup.inj e
  simp only [List.cons.injEq, and_true] at e
  obtain ⟨e1, e2, e3, e4, e5, e6⟩ := e
  have a1 : S.top = R.top := by have := NestedKey.num.inj e1; omega
  have a2 : S.count = R.count := by have := NestedKey.num.inj e2; omega
  have a3 : S.nexts = R.nexts := numsK_inj e3
  have a4 : S.free = R.free := numsK_inj e4
  have a5 : S.vals = R.vals := ints_inj (NestedKey.tup.inj e5)
  have a6 : S.hands = R.hands := hands_inj (NestedKey.tup.inj e6)
  clear e1 e2 e3 e4 e5 e6
  cases S
  cases R
  simp only at a1 a2 a3 a4 a5 a6
  subst a1 a2 a3 a4 a5 a6
  rfl
theorem depth_nums : ∀ l : List Nat, NestedKey.depthAll (l.map fun n : Nat => NestedKey.num (n : Int)) = 0
  | [] => by simp [NestedKey.depthAll]
  | x :: l => by
    have := depth_nums l
    simp [NestedKey.depthAll, NestedKey.depth] at this ⊢
    exact this
theorem depth_ints : ∀ l : List Int, NestedKey.depthAll (l.map NestedKey.num) = 0
  | [] => by simp [NestedKey.depthAll]
  | x :: l => by
    have := depth_ints l
    simp [NestedKey.depthAll, NestedKey.depth] at this ⊢
    exact this
theorem depth_hands : ∀ l : List PHand, NestedKey.depthAll (l.map fun x => numsK x.list) ≤ 1
  | [] => by simp [NestedKey.depthAll]
  | x :: l => by
    have ih := depth_hands l
    have := depth_nums x.list
    rw [List.map_cons]
    unfold NestedKey.depthAll numsK NestedKey.depth
    rw [this]
    unfold numsK at ih
    omega
theorem key_depth (S : PSt) : S.key.depth ≤ 8 := by
  have h1 := depth_nums S.nexts
  have h2 := depth_nums S.free
  have h3 := depth_ints S.vals
  have h4 := depth_hands S.hands
  unfold PSt.key numsK at *
  simp only [NestedKey.depth, NestedKey.depthAll, h1, h2, h3]
  omega
theorem nall_nums {H : Hp} : ∀ l : List Nat, NAll H (l.map fun n : Nat => NestedKey.num (n : Int)) (vN l)
  | [] => .nil
  | x :: l => .cons (.int _) (nall_nums l)
theorem nall_ints {H : Hp} : ∀ l : List Int, NAll H (l.map NestedKey.num) (l.map V.int)
  | [] => .nil
  | x :: l => .cons (.int _) (nall_ints l)
theorem key_is {H : Hp} {a : Addr} {S : PSt} (h : StAt H a S) : NIs H S.key (.ref a) := by
  obtain ⟨n, f, v, hd, e, en, ef, ev, as, eh, pr⟩ := h
  have hh : ∀ {as : List Addr} {xs : List PHand}, Paired (fun t x => NT H t (PHand.list x)) as xs → NAll H (xs.map fun x => numsK x.list) (as.map V.ref) := by
    intro as xs pr
    induction pr with
    | nil => exact .nil
    | cons r rs ih => exact .cons (.tup r (nall_nums _)) ih
  exact .tup e (.cons (.int _) (.cons (.int _) (.cons (.tup en (nall_nums _)) (.cons (.tup ef (nall_nums _)) (.cons (.tup ev (nall_ints _)) (.cons (.tup eh (hh pr)) .nil))))))
/-! ### what has been come to -/
structure Ent where
  st : PSt
  ad : Addr
  v : V
  par : Option (PSt × Nat)
def Ent.ok (H : Hp) (e : Ent) : Prop := StAt H e.ad e.st ∧ match e.par with
  | none => e.v = .non
  | some (O, h) => ∃ t ao, e.v = .ref t ∧ H t = some (.tup [.ref ao, .int (h : Int)]) ∧ StAt H ao O
def entKv (es : List Ent) : NKv := es.map fun e => (e.st.key, e.ad, e.v)
theorem ent_keys {H : Hp} {es : List Ent} (h : ∀ e ∈ es, e.ok H) : KeysT H (entKv es) := fun p hp => by
  obtain ⟨e, he, rfl⟩ := List.mem_map.mp hp
  exact ⟨key_is (h e he).1, key_depth _⟩
theorem ent_at : ∀ {es : List Ent} {e : Ent}, (es.map Ent.st).Nodup → e ∈ es → atN (entKv es) e.st.key = some e.v
  | x :: es, e, n, h => by
    obtain ⟨n1, n2⟩ := List.nodup_cons.mp n
    have r : atN (entKv (x :: es)) e.st.key = if x.st.key = e.st.key then some x.v else atN (entKv es) e.st.key := rfl
    rw [r]
    rcases List.mem_cons.mp h with q | q
    · rw [q, if_pos rfl]
    · rw [if_neg fun z => n1 (by rw [key_inj z]; exact List.mem_map.mpr ⟨e, q, rfl⟩)]
      exact ent_at n2 q
theorem ent_none : ∀ {es : List Ent} {S : PSt}, S ∉ es.map Ent.st → atN (entKv es) S.key = none
  | [], _, _ => rfl
  | x :: es, S, h => by
    have r : atN (entKv (x :: es)) S.key = if x.st.key = S.key then some x.v else atN (entKv es) S.key := rfl
    rw [r, if_neg fun z => h (by rw [List.map_cons, key_inj z]; exact List.mem_cons_self)]
    exact ent_none fun z => h (List.mem_cons_of_mem _ z)
abbrev Came := List (PSt × Option (PSt × Nat))
def came (es : List Ent) : Came := es.map fun e => (e.st, e.par)
/-- the weaving that led there -/
inductive Way (c : Came) : PSt → List Nat → Prop
  | root {S : PSt} : (S, none) ∈ c → Way c S []
  | step {S O : PSt} {h : Nat} {w : List Nat} : (S, some (O, h)) ∈ c → Way c O w → Way c S (w ++ [h])
theorem h9 {k : Nat} {A : Around} (r : Room k A) : A.units + 9 < cLine := by
  have := room65 r
  omega
def spWayTo (P : Program) (w : World) : Sp := fun vs H Q _ => ∃ (a C : Addr) (S : PSt) (es : List Ent) (wv : List Nat), vs = [.ref a, .ref C] ∧ StAt H a S ∧ H C = some (dictN P w C (entKv es)) ∧ (∀ e ∈ es, e.ok H) ∧ (es.map Ent.st).Nodup ∧ Way (came es) S wv ∧ wv.length ≤ 1000 ∧
  ∀ D H', Same H H' → H D = none → H' D = some (.lst (vN wv)) → Q (.ref D) H'
section
variable {P : Program} {w : World} {K : PySem.W.Frag} {mg : Str → Option Value} {base : Heap}
theorem Ent.ok.same {H H' : Hp} {e : Ent} (h : e.ok H) (s : Same H H') : e.ok H' := by
  obtain ⟨h1, h2⟩ := h
  refine ⟨StAt.tups (.of s) h1, ?_⟩
  cases q : e.par with
  | none => rw [q] at h2; exact h2
  | some p =>
    rw [q] at h2
    obtain ⟨t, ao, e1, e2, e3⟩ := h2
    exact ⟨t, ao, e1, s _ _ e2, StAt.tups (.of s) e3⟩
theorem scWayTo : FnScope ["state", "came", "weaving", "hand"] ["state", "came"] (defScope s_weaving_to) := ⟨rfl, rfl, rfl, by decide +kernel, rfl, by decide +kernel, by decide +kernel⟩
theorem cal_weaving_to (D : DefAt K mg "weaving_to" s_weaving_to) : C8.Cal P w K mg base 1 "weaving_to" (spWayTo P w) [] := by
  obtain ⟨f, fd, F, g⟩ := D.ex
  refine cal_of F g (F.bindsN fun _ _ _ _ _ _ us hl => match us, hl with | [_, _], _ => rfl) (fok F scWayTo (fun vs H Q E h => ?_) (fun cdv A outer s0 H vs Q E hr h => ?_))
  · obtain ⟨a, C, S, es, wv, rfl, _⟩ := h
    rfl
  · obtain ⟨a, C, S, es, wv, rfl, hS, eC, ok, nd, wy, wl, fin⟩ := h
    refine ⟨_, (pss_cons
    (ps_set (i := 2) scWayTo.nd rfl (.inl rfl) (pe_lst pa_nil)) (pss_cons
    (ps_while PassesOwn.never (pt_cmpR op_notN (pe_nget (h9 hr) (pv 1) (pv 0) (fun _ _ => rfl)) pe_non (nomark _)) (pss_cons
    (ps_asg (pe_nget (h9 hr) (pv 1) (pv 0) (fun _ _ => rfl)) (pg_tup (by rfl) (pgs_cons (pg_name (i := 0) scWayTo.nd rfl (.inl rfl)) (pgs_cons (pg_name (i := 3) scWayTo.nd rfl (.inl rfl)) pgs_nil)))) (pss_one
    (ps_expr (pe_bm PySem.F.plainAttrs_list PySem.F.slot_list_append PySem.F.type_list_append mt_append (pv 2) (pa_cons (pv 3) pa_nil)))))) (pss_cons
    (ps_expr (pe_bm0 PySem.F.plainAttrs_list PySem.F.slot_list_reverse PySem.F.type_list_reverse mt_reverse (pv 2))) (pss_one
    (ps_ret (pv 2)))))), ?_⟩
    refine ⟨Nat.zero_le _, fun W nW => ?_⟩
    have s1 := same_upd (o := .lst ([] : List V)) nW
    refine ⟨fun m σ H' => ∃ (a' : Addr) (S' : PSt) (w' sfx : List Nat) (u : Option V), σ = [some (.ref a'), some (.ref C), some (.ref W), u] ∧ Same H H' ∧ StAt H' a' S' ∧ Way (came es) S' w' ∧ wv = w' ++ sfx ∧ H' W = some (.lst (vN sfx.reverse)) ∧ m = w'.length,
      ⟨_, a, S, wv, [], none, rfl, s1, StAt.tups (.of s1) hS, wy, (List.append_nil _).symm, upd_same, rfl⟩, ?_⟩
    rintro m σ H' ⟨a', S', w', sfx, u, rfl, s2, hS', wy', ew, eW, rfl⟩
    have ok' : ∀ e ∈ es, e.ok H' := fun e he => (ok e he).same s2
    have eC' := s2 _ _ eC
    have kt := ent_keys ok'
    cases wy' with
    | root hc =>
      obtain ⟨e, he, eq⟩ := List.mem_map.mp hc
      obtain ⟨e1, ep⟩ := Prod.mk.inj eq
      subst e1
      have okE := (ok' e he).2
      rw [ep] at okE
      have okE : e.v = .non := okE
      refine ⟨_, rfl, _, rfl, C, a', _, _, _, rfl, rfl, eC', kt, key_is hS', key_depth _, ent_at nd he, rfl, _, rfl, ?_⟩
      rw [okE]
      refine iteF ?_
      rw [List.nil_append] at ew
      refine ⟨_, rfl, .inl ⟨rfl, _, SqL.of eW⟩, W, _, rfl, rfl, eW, ?_⟩
      refine ⟨_, rfl, fin W _ (sameN s2 nW) nW ?_⟩
      rw [upd_same, ew]
      unfold vN
      rw [← List.map_reverse, List.reverse_reverse]
    | @step _ O h w2 hc wy2 =>
      obtain ⟨e, he, eq⟩ := List.mem_map.mp hc
      obtain ⟨e1, ep⟩ := Prod.mk.inj eq
      subst e1
      have okE := (ok' e he).2
      rw [ep] at okE
      obtain ⟨t, ao, ev, et, hO⟩ : ∃ t ao, e.v = .ref t ∧ H' t = some (.tup [.ref ao, .int (h : Int)]) ∧ StAt H' ao O := okE
      refine ⟨_, rfl, _, rfl, C, a', _, _, _, rfl, rfl, eC', kt, key_is hS', key_depth _, ent_at nd he, rfl, _, rfl, ?_⟩
      rw [ev]
      have lw : sfx.length ≤ 1000 := by
        have := congrArg List.length ew
        rw [List.length_append] at this
        omega
      refine iteT ⟨fun σ' H2 => σ' = [some (.ref ao), some (.ref C), some (.ref W), some (.int (h : Int))] ∧ Same H H2 ∧ StAt H2 ao O ∧ H2 W = some (.lst (vN (h :: sfx).reverse)), ?_, ?_⟩
      · rintro σ' H2 ⟨rfl, z1, z2, z3⟩
        refine ⟨w2.length, ?_, ao, O, w2, h :: sfx, _, rfl, z1, z2, wy2, ?_, z3, rfl⟩
        · rw [List.length_append]
          exact Nat.lt_succ_self _
        · rw [ew, List.append_assoc]
          rfl
      · refine ⟨_, rfl, _, rfl, C, a', _, _, _, rfl, rfl, eC', kt, key_is hS', key_depth _, ent_at nd he, ?_⟩
        rw [ev]
        refine ⟨t, _, rfl, SqT.of et, rfl, _, _, rfl, _, _, rfl, rfl, ?_⟩
        refine ⟨_, rfl, .inl ⟨rfl, _, SqL.of eW⟩, _, rfl, W, _, _, rfl, rfl, eW, by rw [List.length_map, List.length_reverse, sizeLine_eq]; omega, ?_⟩
        have kp : Kp H' (upd H' W (.lst (vN sfx.reverse ++ [V.int (h : Int)]))) := .upd eW rfl
        refine ⟨rfl, sameN s2 nW, StAt.tups kp.tups hO, ?_⟩
        rw [upd_same, List.reverse_cons]
        unfold vN
        rw [List.map_append]
        rfl
end
/-! ### the search -/
instance : DecidableEq PHand := fun a b => by
  cases a
  cases b
  rw [PHand.mk.injEq]
  exact inferInstance
instance : DecidableEq PSt := fun a b => by
  cases a
  cases b
  rw [PSt.mk.injEq]
  exact inferInstance
/-- what a visit of a state leaves -/
def visit (c : Came) (beh : List PSt) (old new : PSt) (i : Nat) : Came × List PSt := if new ∈ c.map Prod.fst then (c, beh) else (c ++ [(new, some (old, i))], beh ++ [new])
/-- what may be known of a search: of its level, what has been come to, the states of the level, of the next one, how far it is -/
structure SJ (r : Rule) (pss : List (List Deed)) (S0 : PSt) (Lm : Nat) (J : Nat → Came → List PSt → List PSt → Nat → Nat → Prop) : Prop where
  init : J 0 [(S0, none)] [S0] [] 0 0
  go : ∀ L c lv beh j i old, J L c lv beh j i → lv[j]? = some old → i < pss.length → ∃ x ds y, old.hands[i]? = some x ∧ pss[i]? = some ds ∧ StepOk old x ds ∧ (stepP r old i x ds).2.hands[i]? = some y ∧
    ((stepP r old i x ds).1.isEx = true → 1 ≤ y.top ∧ y.top ≤ (stepP r old i x ds).2.nexts.length) ∧
    if staleP (stepP r old i x ds).1 (stepP r old i x ds).2 y = true then ∃ w, Way c old w ∧ w.length ≤ 999 else J L (visit c beh old (stepP r old i x ds).2 i).1 lv (visit c beh old (stepP r old i x ds).2 i).2 j (i + 1)
  next : ∀ L c lv beh j, J L c lv beh j pss.length → j < lv.length → J L c lv beh (j + 1) 0
  up : ∀ L c lv beh, J L c lv beh lv.length 0 → lv ≠ [] → J (L + 1) c beh [] 0 0 ∧ L < Lm
  few : ∀ L c lv beh j i, J L c lv beh j i → c.length < sizeLine ∧ beh.length < sizeLine
def spSearch (K : PySem.W.Frag) : Sp := fun vs H Q _ => ∃ (a p rl : Addr) (S0 : PSt) (pss : List (List Deed)) (r : Rule) (Lm : Nat) (J : Nat → Came → List PSt → List PSt → Nat → Nat → Prop),
  vs = [.ref a, .ref p, .ref rl] ∧ StAt H a S0 ∧ PgAt K H p pss ∧ RuleAt H rl r ∧ r.pos ∧ pss.length ≤ 1000 ∧ SJ r pss S0 Lm J ∧
  (∀ H' L c, Same H H' → J L c [] [] 0 0 → Q .non H') ∧
  ∀ D H' L c lv beh j i old x ds y wv, Same H H' → H D = none → J L c lv beh j i → lv[j]? = some old → old.hands[i]? = some x → pss[i]? = some ds → (stepP r old i x ds).2.hands[i]? = some y →
    staleP (stepP r old i x ds).1 (stepP r old i x ds).2 y = true → Way c old wv → H' D = some (.lst (vN (wv ++ [i]))) → Q (.ref D) H'
theorem Ent.ok.tups {H H' : Hp} {e : Ent} (h : e.ok H) (k : Tups H H') : e.ok H' := by
  obtain ⟨h1, h2⟩ := h
  refine ⟨StAt.tups k h1, ?_⟩
  cases q : e.par with
  | none => rw [q] at h2; exact h2
  | some p =>
    rw [q] at h2
    obtain ⟨t, ao, e1, e2, e3⟩ := h2
    exact ⟨t, ao, e1, k _ _ e2, StAt.tups k e3⟩
/-- the search's things on the heap -/
structure SAt (P : Program) (w : World) (F H : Hp) (C B : Addr) (es : List Ent) (bas : List Addr) (beh : List PSt) : Prop where
  same : Same F H
  c : H C = some (dictN P w C (entKv es))
  b : H B = some (.lst (bas.map V.ref))
  ok : ∀ e ∈ es, e.ok H
  nd : (es.map Ent.st).Nodup
  st : Paired (StAt H) bas beh
  new : F C = none ∧ F B = none
theorem SAt.go {P : Program} {w : World} {F H H' : Hp} {C B : Addr} {es : List Ent} {bas : List Addr} {beh : List PSt} (S : SAt P w F H C B es bas beh) (s : Same H H') : SAt P w F H' C B es bas beh :=
  ⟨S.same.trans s, s _ _ S.c, s _ _ S.b, fun e he => (S.ok e he).same s, S.nd, Paired.mono2 (fun _ _ z => StAt.tups (.of s) z) S.st, S.new⟩
theorem came_fst (es : List Ent) : (came es).map Prod.fst = es.map Ent.st := by
  unfold came
  rw [List.map_map]
  rfl
section
variable {P : Program} {w : World} {K : PySem.W.Frag} {mg : Str → Option Value} {base : Heap}
structure TxSe (K : PySem.W.Frag) (mg : Str → Option Value) : Prop where
  search : DefAt K mg "search" s_search
  weaving_to : DefAt K mg "weaving_to" s_weaving_to
  len : mg "len" = none
  range : mg "range" = none
theorem scSearch : FnScope ["state", "programs", "rule", "came", "level", "behind", "old", "hand", "told", "new"] ["state", "programs", "rule"] (defScope s_search) := ⟨rfl, rfl, rfl, by decide +kernel, rfl, by decide +kernel, by decide +kernel⟩
theorem cal_search (T : TxSe K mg) (TS : TxS K mg) (TT : TxT K mg) (TC : TxC mg) : C8.Cal P w K mg base 6 "search" (spSearch K) [] := by
  obtain ⟨f, fd, F, g⟩ := T.search.ex
  have c_weaving_to : C8.Cal P w K mg base 1 "weaving_to" (spWayTo P w) [] := cal_weaving_to T.weaving_to
  have c_step : C8.Cal P w K mg base 5 "step" (spStep K) [] := cal_step TS
  have c_was_stale : C8.Cal P w K mg base 1 "was_stale" (spWasStale K) [] := cal_was_stale TT TC
  refine cal_of F g (F.bindsN fun _ _ _ _ _ _ us hl => match us, hl with | [_, _, _], _ => rfl) (fok F scSearch (fun vs H Q E h => ?_) (fun cdv A outer s0 H vs Q E hr h => ?_))
  · obtain ⟨a, p, rl, S0, pss, r, Lm, J, rfl, _⟩ := h
    rfl
  · obtain ⟨a, p, rl, S0, pss, r, Lm, J, rfl, hS, pg, ru, rp, pl, SJ0, fin0, fin1⟩ := h
    refine ⟨_, (pss_cons
    (ps_set (i := 3) scSearch.nd rfl (.inl rfl) (pe_ndisp1 (h9 hr) (pv 0) pe_non)) (pss_cons
    (ps_set (i := 4) scSearch.nd rfl (.inl rfl) (pe_lst (pa_cons (pv 0) pa_nil))) (pss_cons
    (ps_while PassesOwn.never (pt_cmpR op_gt (pe_callB call_len_seq (by rfl) T.len PySem.boot_len (pa_cons (pv 4) pa_nil)) pe_int (nomark _)) (pss_cons
    (ps_set (i := 5) scSearch.nd rfl (.inl rfl) (pe_lst pa_nil)) (pss_cons
    (ps_for PassesOwn.never rfl (pi_list (pv 4)) (pg_name (i := 6) scSearch.nd rfl (.inl rfl)) (pss_one (ps_for PassesOwn.never rfl (pi_range1 (by rfl) T.range (pa_cons (pe_callB call_len_seq (by rfl) T.len PySem.boot_len (pa_cons (pv 1) pa_nil)) pa_nil)) (pg_name (i := 7) scSearch.nd rfl (.inl rfl)) (pss_cons
    (ps_asg (C8.pe_c c_step hr (by decide) (by rfl) (pa_cons (pv 6) (pa_cons (pv 1) (pa_cons (pv 2) (pa_cons (pv 7) pa_nil))))) (pg_tup (by rfl) (pgs_cons (pg_name (i := 8) scSearch.nd rfl (.inl rfl)) (pgs_cons (pg_name (i := 9) scSearch.nd rfl (.inl rfl)) pgs_nil)))) (pss_cons
    (ps_if (pt_val (C8.pe_c c_was_stale hr (by decide) (by rfl) (pa_cons (pv 8) (pa_cons (pv 9) (pa_cons (pv 7) pa_nil))))) (pss_one (ps_ret (pe_op op_cat (C8.pe_c c_weaving_to hr (by decide) (by rfl) (pa_cons (pv 6) (pa_cons (pv 3) pa_nil))) (pe_lst (pa_cons (pv 7) pa_nil))))) pss_nil) (pss_one
    (ps_if (pt_cmp (pc_nnotin (h9 hr) (pv 9) (pv 3)) (by rfl)) (pss_cons
    (ps_nput (h9 hr) (pv 3) (pv 9) (pe_tup (pa_cons (pv 6) (pa_cons (pv 7) pa_nil))) rfl) (pss_one
    (ps_expr (pe_bm PySem.F.plainAttrs_list PySem.F.slot_list_append PySem.F.type_list_append mt_append (pv 5) (pa_cons (pv 9) pa_nil))))) pss_nil))))))) (pss_one
    (ps_set (i := 4) scSearch.nd rfl (.inl rfl) (pv 5)))))) (pss_one
    (ps_ret pe_non))))), ?_⟩
    refine fun C nC => ?_
    refine ⟨_, rfl, a, S0.key, rfl, upd_same, ?_, key_depth _, ?_⟩
    · exact key_is (StAt.tups (.of (same_upd nC)) hS)
    rw [upd_upd]
    have s1 := same_upd (o := dictN P w C (entKv [⟨S0, a, .non, none⟩])) nC
    refine ⟨_, rfl, by show 1 ≤ sizeLine; decide, fun B nB => ?_⟩
    have s2 := s1.trans (same_upd (o := .lst [V.ref a]) nB)
    have S2 : SAt P w H (upd (upd H C (dictN P w C (entKv [⟨S0, a, .non, none⟩]))) B (.lst [V.ref a])) C B [⟨S0, a, .non, none⟩] [a] [S0] := by
      refine ⟨s2, (same_upd nB) _ _ upd_same, upd_same, fun e he => ?_, by simp, .cons (StAt.tups (.of s2) hS) .nil, nC, none_back s1 nB⟩
      rw [List.mem_singleton.mp he]
      exact ⟨StAt.tups (.of s2) hS, rfl⟩
    refine ⟨fun m σ H' => ∃ (Lv : Addr) (es : List Ent) (las : List Addr) (lv : List PSt) (L : Nat) (x5 x6 x7 x8 x9 : Option V), σ = [some (.ref a), some (.ref p), some (.ref rl), some (.ref C), some (.ref Lv), x5, x6, x7, x8, x9] ∧ SAt P w H H' C Lv es las lv ∧ J L (came es) lv [] 0 0 ∧ m = Lm + 1 - L,
      ⟨_, B, [⟨S0, a, .non, none⟩], [a], [S0], 0, none, none, none, none, none, rfl, S2, SJ0.init, rfl⟩, ?_⟩
    rintro m σ H' ⟨Lv, es, las, lv, L, x5, x6, x7, x8, x9, rfl, S3, j3, rfl⟩
    have lal := paired_len S3.st
    refine ⟨_, rfl, Lv, _, rfl, .inl (SqL.of S3.b), _, _, rfl, rfl, _, rfl, ite2 (fun q => ?_) (fun q => ?_)⟩
    · have lne : lv ≠ [] := fun z => by
        rw [List.length_map, lal, z] at q
        simp at q
      have lpos : 0 < lv.length := List.length_pos_iff.mpr lne
      refine ⟨fun σ' H2 => ∃ (Lv2 : Addr) (es : List Ent) (las : List Addr) (beh : List PSt) (x5 x6 x7 x8 x9 : Option V), σ' = [some (.ref a), some (.ref p), some (.ref rl), some (.ref C), some (.ref Lv2), x5, x6, x7, x8, x9] ∧ SAt P w H H2 C Lv2 es las beh ∧ J L (came es) lv beh lv.length 0, ?_, ?_⟩
      · rintro σ' H2 ⟨Lv2, es2, las2, beh2, y5, y6, y7, y8, y9, rfl, S4, j4⟩
        obtain ⟨j5, lt⟩ := SJ0.up _ _ _ _ j4 lne
        exact ⟨Lm + 1 - (L + 1), by omega, Lv2, es2, las2, beh2, L + 1, y5, y6, y7, y8, y9, rfl, S4, j5, rfl⟩
      · refine ⟨Nat.zero_le _, fun Be nBe => ?_⟩
        have sB := same_upd (o := .lst ([] : List V)) nBe
        have S5 : SAt P w H (upd H' Be (.lst [])) C Be es [] [] := ⟨S3.same.trans sB, sB _ _ S3.c, upd_same, fun e he => (S3.ok e he).same sB, S3.nd, .nil, S3.new.1, none_back S3.same nBe⟩
        have eLv := sB _ _ S3.b
        have sLv := Paired.mono2 (fun _ _ z => StAt.tups (.of sB) z) S3.st
        have LB : Lv ≠ Be := ne_of_none S3.b nBe
        generalize upd H' Be (.lst []) = H3 at S5 eLv sLv ⊢
        refine ⟨_, rfl, Lv, rfl, ⟨_, SqL.of eLv⟩, for_list (K := K) (a := Lv) (xs := las.map V.ref) (fun j σ H4 => ∃ (es : List Ent) (bas : List Addr) (beh : List PSt) (x6 x7 x8 x9 : Option V), σ = [some (.ref a), some (.ref p), some (.ref rl), some (.ref C), some (.ref Lv), some (.ref Be), x6, x7, x8, x9] ∧ SAt P w H H4 C Be es bas beh ∧ H4 Lv = some (.lst (las.map V.ref)) ∧ Paired (StAt H4) las lv ∧ J L (came es) lv beh j 0)
          ⟨es, [], [], _, _, _, _, rfl, S5, eLv, sLv, j3⟩ (fun j σ H4 _ z => by
            obtain ⟨_, _, _, _, _, _, _, _, _, z, _⟩ := z
            exact SqL.of z) ?_ ?_⟩
        · rintro j y σ H4 hy ⟨es4, bas4, beh4, y6, y7, y8, y9, rfl, S6, e6, p6, j6⟩
          have hj := (List.getElem?_eq_some_iff.mp hy).1
          rw [List.length_map] at hj
          have hjl : j < lv.length := by omega
          obtain ⟨ad, ead, _⟩ := paired_get p6 (List.getElem?_eq_getElem hjl)
          have ey : y = V.ref ad := by
            rw [List.getElem?_map, ead] at hy
            exact (Option.some.inj hy).symm
          subst ey
          obtain ⟨pls, pg1, pg2⟩ := id pg
          have pll := paired_len pg2
          refine ⟨_, rfl, p, _, rfl, SqA.same pg1 S6.same, _, rfl, by rw [List.length_map]; omega, by rw [List.length_map]; omega, ?_⟩
          rw [Int.toNat_natCast]
          refine for_range (fun i σ H7 => ∃ (es : List Ent) (bas : List Addr) (beh : List PSt) (x7 x8 x9 : Option V), σ = [some (.ref a), some (.ref p), some (.ref rl), some (.ref C), some (.ref Lv), some (.ref Be), some (.ref ad), x7, x8, x9] ∧ SAt P w H H7 C Be es bas beh ∧ H7 Lv = some (.lst (las.map V.ref)) ∧ Paired (StAt H7) las lv ∧ J L (came es) lv beh j i)
            ⟨es4, bas4, beh4, _, _, _, rfl, S6, e6, p6, j6⟩ ?_ ?_
          · rintro i σ H7 hi ⟨es7, bas7, beh7, z7, z8, z9, rfl, S7, e7, p7, j7⟩
            rw [Int.zero_add]
            rw [List.length_map, pll] at hi
            have elv : lv[j]? = some lv[j] := List.getElem?_eq_getElem hjl
            obtain ⟨x, ds, y, hx, hds, sok, hy2, bnd, res⟩ := SJ0.go _ _ _ _ _ _ _ j7 elv hi
            obtain ⟨ad', ead', hSt⟩ := paired_get p7 elv
            have ea : ad' = ad := by
              rw [ead] at ead'
              exact (Option.some.inj ead').symm
            subst ea
            generalize hold : lv[j] = old at *
            refine ⟨_, rfl, _, rfl, _, rfl, _, rfl, ad', p, rl, old, r, i, x, pss, ds, rfl, hSt, pg.same S7.same, ru.same S7.same, rp, hx, hds, sok, fun t H8 s8 out => ?_⟩
            obtain ⟨tu, tb, et, eu, hb⟩ := out
            have S8 := S7.go s8
            have e8 := s8 _ _ e7
            have p8 := Paired.mono2 (fun _ _ z => StAt.tups (.of s8) z) p7
            refine ⟨t, _, rfl, SqT.of et, rfl, _, _, rfl, _, _, rfl, rfl, ?_⟩
            refine ⟨_, rfl, _, rfl, _, rfl, tu, tb, _, _, i, y, rfl, eu, hb, hy2, bnd, _, rfl, ?_⟩
            have fw := SJ0.few _ _ _ _ _ _ j7
            have kt := ent_keys S8.ok
            generalize hnw : stepP r old i x ds = nw at *
            cases hst : staleP nw.1 nw.2 y with
            | true =>
              rw [if_pos hst] at res
              obtain ⟨wv, wy, wl⟩ := res
              refine iteT ⟨_, rfl, _, rfl, ad', C, old, es7, wv, rfl, StAt.tups (.of s8) hSt, S8.c, S8.ok, S8.nd, wy, by omega, fun D1 H9 s9 nD1 eD1 => ⟨_, rfl, by show 1 ≤ sizeLine; decide, fun L1 nL1 => ?_⟩⟩
              have s10 := same_upd (o := .lst [V.int (i : Int)]) nL1
              refine ⟨D1, L1, _, _, rfl, rfl, s10 _ _ eD1, upd_same, by rw [List.length_map, sizeLine_eq]; show wv.length + 1 ≤ _; omega, fun D nD => ?_⟩
              have s11 := same_upd (o := .lst (vN wv ++ [V.int (i : Int)])) nD
              have sAll := ((S8.same.trans s9).trans s10).trans s11
              refine fin1 D _ L (came es7) lv beh7 j i old x ds y wv sAll (none_back ((S8.same.trans s9).trans s10) nD) j7 elv hx hds (by rw [hnw]; exact hy2) (by rw [hnw]; exact hst) wy ?_
              rw [upd_same]
              unfold vN
              rw [List.map_append]
              rfl
            | false =>
              rw [if_neg (by rw [hst]; exact Bool.false_ne_true)] at res
              refine iteF ?_
              by_cases hin : nw.2 ∈ es7.map Ent.st
              · obtain ⟨e, he, eq⟩ := List.mem_map.mp hin
                have at1 : atN (entKv es7) nw.2.key = some e.v := by rw [← eq]; exact ent_at S8.nd he
                refine ⟨_, rfl, _, rfl, C, tb, _, _, rfl, rfl, S8.c, kt, key_is hb, key_depth _, _, rfl, ?_⟩
                rw [at1]
                refine iteF ⟨es7, bas7, beh7, _, _, _, rfl, S8, e8, p8, ?_⟩
                unfold visit at res
                rw [if_pos (by rw [came_fst]; exact hin)] at res
                exact res
              · have at1 : atN (entKv es7) nw.2.key = none := ent_none hin
                refine ⟨_, rfl, _, rfl, C, tb, _, _, rfl, rfl, S8.c, kt, key_is hb, key_depth _, _, rfl, ?_⟩
                rw [at1]
                refine iteT ⟨_, rfl, _, rfl, by show 2 ≤ sizeLine; decide, fun t3 nt3 => ?_⟩
                have s9 := same_upd (o := .tup [V.ref ad', .int (i : Int)]) nt3
                have S9 := S8.go s9
                have e9 := s9 _ _ e8
                have p9 := Paired.mono2 (fun _ _ z => StAt.tups (.of s9) z) p8
                have hb9 := StAt.tups (.of s9) hb
                have hSt9 := StAt.tups (.of (s8.trans s9)) hSt
                have et3 := upd_same (H := H8) (a := t3) (o := .tup [V.ref ad', .int (i : Int)])
                generalize upd H8 t3 (.tup [V.ref ad', .int (i : Int)]) = H9 at s9 S9 e9 p9 hb9 hSt9 et3 ⊢
                have CLv : Lv ≠ C := ne_of e9 S9.c (by intro z; cases z)
                have CBe : Be ≠ C := ne_of S9.b S9.c (by intro z; cases z)
                have cl : es7.length = (came es7).length := (List.length_map ..).symm
                have bl := paired_len S9.st
                refine ⟨_, rfl, _, rfl, C, tb, _, _, rfl, rfl, S9.c, ent_keys S9.ok, key_is hb9, key_depth _, at1, by unfold entKv; rw [List.length_map, cl]; exact fw.1, ?_⟩
                have ek : entKv es7 ++ [(nw.2.key, tb, V.ref t3)] = entKv (es7 ++ [⟨nw.2, tb, .ref t3, some (old, i)⟩]) := by
                  unfold entKv
                  rw [List.map_append]
                  rfl
                rw [ek]
                have eB10 : upd H9 C (dictN P w C (entKv (es7 ++ [⟨nw.2, tb, .ref t3, some (old, i)⟩]))) Be = some (.lst (bas7.map V.ref)) := by rw [upd_ne CBe]; exact S9.b
                refine ⟨_, rfl, .inl ⟨rfl, _, SqL.of eB10⟩, _, rfl, Be, _, _, rfl, rfl, eB10, by rw [List.length_map, bl]; exact fw.2, ?_⟩
                have k1 : Tups H9 (upd H9 C (dictN P w C (entKv (es7 ++ [⟨nw.2, tb, .ref t3, some (old, i)⟩])))) := .upd S9.c (fun xs z => by cases z)
                have k2 := k1.trans (.upd (u := .lst (bas7.map V.ref ++ [V.ref tb])) eB10 (fun xs z => by cases z))
                unfold visit at res
                rw [if_neg (by rw [came_fst]; exact hin)] at res
                have ec : came (es7 ++ [⟨nw.2, tb, .ref t3, some (old, i)⟩]) = came es7 ++ [(nw.2, some (old, i))] := by
                  unfold came
                  rw [List.map_append]
                  rfl
                refine ⟨es7 ++ [⟨nw.2, tb, .ref t3, some (old, i)⟩], bas7 ++ [tb], beh7 ++ [nw.2], _, _, _, rfl, ⟨sameN (sameN S9.same S9.new.1) S9.new.2, ?_, ?_, fun e he => ?_, ?_, ?_, S9.new⟩, ?_, ?_, ?_⟩
                · rw [upd_ne (Ne.symm CBe)]
                  exact upd_same
                · rw [upd_same, List.map_append]
                  rfl
                · rcases List.mem_append.mp he with z | z
                  · exact (S9.ok e z).tups k2
                  · rw [List.mem_singleton.mp z]
                    exact ⟨StAt.tups k2 hb9, t3, ad', rfl, k2 _ _ et3, StAt.tups k2 hSt9⟩
                · rw [List.map_append, List.nodup_append]
                  exact ⟨S9.nd, by simp, fun a ha b hb2 q => hin (by
                    have z : b = nw.2 := List.mem_singleton.mp hb2
                    rw [← z, ← q]
                    exact ha)⟩
                · exact Paired.app (Paired.mono2 (fun _ _ z => StAt.tups k2 z) S9.st) (.cons (StAt.tups k2 hb9) .nil)
                · rw [upd_ne LB, upd_ne CLv]
                  exact e9
                · exact Paired.mono2 (fun _ _ z => StAt.tups k2 z) p9
                · rw [ec]
                  exact res
          · rintro σ H7 ⟨es7, bas7, beh7, z7, z8, z9, rfl, S7, e7, p7, j7⟩
            rw [List.length_map, pll] at j7
            exact ⟨es7, bas7, beh7, _, _, _, _, rfl, S7, e7, p7, SJ0.next _ _ _ _ _ j7 hjl⟩
        · rintro σ H4 ⟨es4, bas4, beh4, y6, y7, y8, y9, rfl, S6, e6, p6, j6⟩
          rw [List.length_map, lal] at j6
          exact ⟨_, rfl, Be, es4, bas4, beh4, _, _, _, _, _, rfl, S6, j6⟩
    · have ln : lv = [] := by
        rw [List.length_map, lal] at q
        cases lv with
        | nil => rfl
        | cons x l => exact absurd (by simp) q
      subst ln
      exact fin0 H' L _ S3.same j3
end
end Sk


/-! Breadth first: what is come to first is come to by the least of the shortest ways. -/
namespace Sk
open PySem PySem.Spec PyProof.Rows L2
/-- a weaving's rank: the shorter first, of several the lesser -/
def rk (w : List Nat) : Nat := encR w.reverse
theorem rk_snoc (w : List Nat) (i : Nat) : rk (w ++ [i]) = rk w * 1024 + i := by
  unfold rk
  rw [List.reverse_append]
  rfl
theorem encR_bound : ∀ {l : List Nat}, (∀ d ∈ l, d < 1024) → 1024 ^ l.length ≤ encR l ∧ encR l < 2 * 1024 ^ l.length
  | [], _ => ⟨Nat.le_refl _, by show 1 < 2 * 1; decide⟩
  | d :: r, h => by
    obtain ⟨h1, h2⟩ := encR_bound (l := r) fun x hx => h x (List.mem_cons_of_mem _ hx)
    have hd := h d List.mem_cons_self
    rw [List.length_cons, Nat.pow_succ]
    constructor
    · show _ ≤ encR r * 1024 + d
      omega
    · show encR r * 1024 + d < _
      omega
theorem rk_len {v w : List Nat} (hv : ∀ d ∈ v, d < 1024) (hw : ∀ d ∈ w, d < 1024) (h : rk v ≤ rk w) : v.length ≤ w.length := by
  obtain ⟨a1, _⟩ := encR_bound (l := v.reverse) fun d hd => hv d (List.mem_reverse.mp hd)
  obtain ⟨_, b2⟩ := encR_bound (l := w.reverse) fun d hd => hw d (List.mem_reverse.mp hd)
  rw [List.length_reverse] at a1 b2
  unfold rk at h
  refine Classical.byContradiction fun z => ?_
  have : 1024 ^ (w.length + 1) ≤ 1024 ^ v.length := Nat.pow_le_pow_right (by decide) (by omega)
  rw [Nat.pow_succ] at this
  omega
theorem rk_inj {v w : List Nat} (hv : ∀ d ∈ v, d < 1024) (hw : ∀ d ∈ w, d < 1024) (h : rk v = rk w) : v = w := by
  have := encR_inj (fun d hd => hv d (List.mem_reverse.mp hd)) (fun d hd => hw d (List.mem_reverse.mp hd)) h
  rw [← List.reverse_reverse v, this, List.reverse_reverse]
section
variable {S : Type} {n : Nat} {s0 : S} {nx : S → Nat → S} {bad : S → Nat → Bool}
/-- a way without a stale step -/
inductive Rch (n : Nat) (s0 : S) (nx : S → Nat → S) (bad : S → Nat → Bool) : S → List Nat → Prop
  | nil : Rch n s0 nx bad s0 []
  | snoc {T : S} {w : List Nat} {i : Nat} : Rch n s0 nx bad T w → i < n → bad T i = false → Rch n s0 nx bad (nx T i) (w ++ [i])
theorem Rch.low (hn : n ≤ 1024) {T : S} {w : List Nat} (h : Rch n s0 nx bad T w) : ∀ d ∈ w, d < 1024 := by
  induction h with
  | nil => exact fun d hd => by cases hd
  | snoc r hi b ih =>
    intro d hd
    rcases List.mem_append.mp hd with q | q
    · exact ih d q
    · rw [List.mem_singleton.mp q]; omega
/-- the least way -/
def Lst (n : Nat) (s0 : S) (nx : S → Nat → S) (bad : S → Nat → Bool) (T : S) (w : List Nat) : Prop := Rch n s0 nx bad T w ∧ ∀ v, Rch n s0 nx bad T v → rk w ≤ rk v
theorem lst_ex {T : S} {w : List Nat} (h : Rch n s0 nx bad T w) : ∃ u, Lst n s0 nx bad T u := by
  have key : ∀ m w, rk w ≤ m → Rch n s0 nx bad T w → ∃ u, Lst n s0 nx bad T u := by
    intro m
    induction m with
    | zero =>
      intro w hm h
      exact ⟨w, h, fun v _ => by omega⟩
    | succ m ih =>
      intro w hm h
      by_cases q : ∃ v, Rch n s0 nx bad T v ∧ rk v < rk w
      · obtain ⟨v, h1, h2⟩ := q
        exact ih v (by omega) h1
      · exact ⟨w, h, fun v hv => Classical.byContradiction fun z => q ⟨v, hv, by omega⟩⟩
  exact key _ w (Nat.le_refl _) h
theorem lst_unique (hn : n ≤ 1024) {T : S} {u v : List Nat} (a : Lst n s0 nx bad T u) (b : Lst n s0 nx bad T v) : u = v :=
  rk_inj (a.1.low hn) (b.1.low hn) (Nat.le_antisymm (a.2 v b.1) (b.2 u a.1))
theorem paired_getR {α β : Type} {R : α → β → Prop} : ∀ {as : List α} {bs : List β} {i : Nat} {a : α}, Paired R as bs → as[i]? = some a → ∃ b, bs[i]? = some b ∧ R a b
  | _ :: _, _ :: _, 0, _, .cons r _, h => by
    cases h
    exact ⟨_, rfl, r⟩
  | _ :: _, _ :: _, i + 1, _, .cons _ rs, h => paired_getR (i := i) rs h
/-- what a level of the search knows: it is all processed ahead of the pair (j, i) -/
structure Bfs (n : Nat) (s0 : S) (nx : S → Nat → S) (bad : S → Nat → Bool) (K : S → Prop) (L : Nat) (lv : List S) (us : List (List Nat)) (beh : List S) (vs : List (List Nat)) (j i : Nat) : Prop where
  lvP : Paired (fun T u => Lst n s0 nx bad T u ∧ u.length = L) lv us
  lvAll : ∀ T u, Lst n s0 nx bad T u → u.length = L → T ∈ lv
  usP : us.Pairwise fun a b => rk a < rk b
  behP : Paired (fun T v => Lst n s0 nx bad T v ∧ v.length = L + 1) beh vs
  vsP : vs.Pairwise fun a b => rk a < rk b
  past : ∀ v ∈ vs, ∀ u, us[j]? = some u → rk v < rk (u ++ [i])
  known : ∀ w T, Rch n s0 nx bad T w → w.length ≤ L → K T
  here : ∀ j' i' T, (j' < j ∨ (j' = j ∧ i' < i)) → i' < n → lv[j']? = some T → bad T i' = false ∧ K (nx T i')
  fresh : ∀ w T k, Rch n s0 nx bad T w → w.length < L → k < n → bad T k = false
  only : ∀ T, K T → (∃ u, Lst n s0 nx bad T u ∧ u.length ≤ L) ∨ T ∈ beh
theorem pair_idx {us : List (List Nat)} (p : us.Pairwise fun a b => rk a < rk b) {j k : Nat} {u v : List Nat} (hj : us[j]? = some u) (hk : us[k]? = some v) (h : rk u < rk v) : j < k := by
  refine Classical.byContradiction fun z => ?_
  by_cases q : k = j
  · subst q
    rw [hj] at hk
    rw [Option.some.inj hk] at h
    omega
  · obtain ⟨a1, a2⟩ := List.getElem?_eq_some_iff.mp hj
    obtain ⟨b1, b2⟩ := List.getElem?_eq_some_iff.mp hk
    have := List.pairwise_iff_getElem.mp p k j b1 a1 (by omega)
    rw [a2, b2] at this
    omega
section
variable {K : S → Prop} {L : Nat} {lv : List S} {us : List (List Nat)} {beh : List S} {vs : List (List Nat)} {j i : Nat} {T : S} {u : List Nat}
/-- a way of the level's length comes from the level -/
theorem Bfs.from_ (hn : n ≤ 1024) (B : Bfs n s0 nx bad K L lv us beh vs j i) {O : S} {w : List Nat} {k : Nat} (h : Rch n s0 nx bad O w) (hl : w.length = L) :
    (∃ v, Lst n s0 nx bad O v ∧ v.length < L) ∨ ∃ (j0 : Nat) (u0 : List Nat), lv[j0]? = some O ∧ us[j0]? = some u0 ∧ Lst n s0 nx bad O u0 ∧ u0.length = L ∧ rk (u0 ++ [k]) ≤ rk (w ++ [k]) := by
  obtain ⟨v, hv⟩ := lst_ex h
  have le := hv.2 w h
  have ll := rk_len (hv.1.low hn) (h.low hn) le
  by_cases q : v.length < L
  · exact .inl ⟨v, hv, q⟩
  · have m := B.lvAll O v hv (by omega)
    obtain ⟨j0, hj⟩ := List.getElem?_of_mem m
    obtain ⟨u0, hu, hr⟩ := paired_getR B.lvP hj
    have := lst_unique hn hv hr.1
    subst this
    refine .inr ⟨j0, v, hj, hu, hv, by omega, ?_⟩
    rw [rk_snoc, rk_snoc]
    omega
/-- pairs are gone through by rank -/
theorem Bfs.ahead (B : Bfs n s0 nx bad K L lv us beh vs j i) {j0 k : Nat} {u0 : List Nat} (hn : n ≤ 1024) (hi : i < n) (hk : k < n) (hu : us[j]? = some u) (h0 : us[j0]? = some u0) (h : rk (u0 ++ [k]) < rk (u ++ [i])) : j0 < j ∨ (j0 = j ∧ k < i) := by
  rw [rk_snoc, rk_snoc] at h
  by_cases q : rk u0 < rk u
  · exact .inl (pair_idx B.usP h0 hu q)
  · have e : rk u0 = rk u := by omega
    refine .inr ⟨?_, by omega⟩
    refine Classical.byContradiction fun z => ?_
    rcases Nat.lt_or_gt_of_ne z with z | z
    · obtain ⟨a1, a2⟩ := List.getElem?_eq_some_iff.mp h0
      obtain ⟨b1, b2⟩ := List.getElem?_eq_some_iff.mp hu
      have := List.pairwise_iff_getElem.mp B.usP j0 j a1 b1 z
      rw [a2, b2] at this
      omega
    · obtain ⟨a1, a2⟩ := List.getElem?_eq_some_iff.mp h0
      obtain ⟨b1, b2⟩ := List.getElem?_eq_some_iff.mp hu
      have := List.pairwise_iff_getElem.mp B.usP j j0 b1 a1 z
      rw [a2, b2] at this
      omega
/-- a state come to anew -/
theorem Bfs.least (hn : n ≤ 1024) (B : Bfs n s0 nx bad K L lv us beh vs j i) (hi : i < n) (hT : lv[j]? = some T) (hu : us[j]? = some u) (hL : Lst n s0 nx bad T u) (hl : u.length = L) (nb : bad T i = false) (nK : ¬ K (nx T i)) :
    Lst n s0 nx bad (nx T i) (u ++ [i]) := by
  refine ⟨.snoc hL.1 hi nb, fun v hv => Classical.byContradiction fun z => ?_⟩
  have z : rk v < rk (u ++ [i]) := by omega
  have hr := Rch.snoc hL.1 hi nb
  have ll := rk_len (hv.low hn) (hr.low hn) (by omega)
  rw [List.length_append, hl] at ll
  have ll : v.length ≤ L + 1 := ll
  by_cases q : v.length ≤ L
  · exact nK (B.known v _ hv q)
  · generalize hN : nx T i = N at hv nK
    cases hv with
    | nil => simp at q
    | @snoc O w k r hk bk =>
      have wl : w.length = L := by
        rw [List.length_append] at ll q
        simp at ll q
        omega
      rcases B.from_ (k := k) hn r wl with ⟨v0, h1, h2⟩ | ⟨j0, u0, h1, h2, h3, h4, h5⟩
      · exact nK (B.known (v0 ++ [k]) _ (.snoc h1.1 hk bk) (by rw [List.length_append]; show v0.length + 1 ≤ L; omega))
      · exact nK (B.here j0 k O (B.ahead hn hi hk hu h2 (by omega)) hk h1).2
theorem Bfs.init (n : Nat) (s0 : S) (nx : S → Nat → S) (bad : S → Nat → Bool) (hn : n ≤ 1024) : Bfs n s0 nx bad (· = s0) 0 [s0] [[]] [] [] 0 0 := by
  have l0 : Lst n s0 nx bad s0 [] := ⟨.nil, fun v _ => by
    show 1 ≤ _
    exact encR_pos _⟩
  refine ⟨.cons ⟨l0, rfl⟩ .nil, fun T u h e => ?_, List.pairwise_singleton _ _, .nil, .nil, fun v hv => (by cases hv), fun w T h e => ?_, fun j' i' T h => by omega, fun w T k h e => by omega, fun T h => .inl ⟨[], by rw [h]; exact l0, Nat.le_refl _⟩⟩
  · have : u = [] := List.length_eq_zero_iff.mp e
    subst this
    generalize hw : ([] : List Nat) = w at h
    cases h.1 with
    | nil => exact List.mem_cons_self
    | snoc r _ _ => simp at hw
  · have : w = [] := List.length_eq_zero_iff.mp (Nat.le_zero.mp e)
    generalize hw : w = w2 at h
    cases h with
    | nil => rfl
    | snoc r _ _ => rw [this] at hw; simp at hw
/-- the state come to is known -/
theorem Bfs.old (B : Bfs n s0 nx bad K L lv us beh vs j i) (hT : lv[j]? = some T) (nb : bad T i = false) (k : K (nx T i)) : Bfs n s0 nx bad K L lv us beh vs j (i + 1) := by
  refine ⟨B.lvP, B.lvAll, B.usP, B.behP, B.vsP, fun v hv u hu => ?_, B.known, fun j' i' T' h hi' hT' => ?_, B.fresh, B.only⟩
  · have := B.past v hv u hu
    rw [rk_snoc] at this ⊢
    omega
  · by_cases q : j' < j ∨ (j' = j ∧ i' < i)
    · exact B.here j' i' T' q hi' hT'
    · have e1 : j' = j := by omega
      have e2 : i' = i := by omega
      subst e1 e2
      rw [hT] at hT'
      rw [← Option.some.inj hT']
      exact ⟨nb, k⟩
/-- it is new -/
theorem Bfs.add (hn : n ≤ 1024) (B : Bfs n s0 nx bad K L lv us beh vs j i) (hi : i < n) (hT : lv[j]? = some T) (nb : bad T i = false) (nK : ¬ K (nx T i)) :
    ∃ u, us[j]? = some u ∧ Lst n s0 nx bad T u ∧ u.length = L ∧ Bfs n s0 nx bad (fun x => K x ∨ x = nx T i) L lv us (beh ++ [nx T i]) (vs ++ [u ++ [i]]) j (i + 1) := by
  obtain ⟨u, hu, hL, hl⟩ := paired_getR B.lvP hT
  have least := B.least hn hi hT hu hL hl nb nK
  refine ⟨u, hu, hL, hl, B.lvP, B.lvAll, B.usP, ?_, ?_, fun v hv u' hu' => ?_, fun w T' h e => .inl (B.known w T' h e), fun j' i' T' h hi' hT' => ?_, B.fresh, fun T' h => ?_⟩
  · exact Paired.snoc B.behP ⟨least, by rw [List.length_append, hl]; rfl⟩
  · rw [List.pairwise_append]
    exact ⟨B.vsP, List.pairwise_singleton _ _, fun a ha b hb => by
      rw [List.mem_singleton.mp hb]
      exact B.past a ha u hu⟩
  · rw [hu] at hu'
    rw [← Option.some.inj hu']
    rcases List.mem_append.mp hv with z | z
    · have := B.past v z u hu
      rw [rk_snoc] at this ⊢
      omega
    · rw [List.mem_singleton.mp z, rk_snoc, rk_snoc]
      omega
  · by_cases q : j' < j ∨ (j' = j ∧ i' < i)
    · obtain ⟨h1, h2⟩ := B.here j' i' T' q hi' hT'
      exact ⟨h1, .inl h2⟩
    · have e1 : j' = j := by omega
      have e2 : i' = i := by omega
      subst e1 e2
      rw [hT] at hT'
      rw [← Option.some.inj hT']
      exact ⟨nb, .inr rfl⟩
  · rcases h with h | h
    · rcases B.only T' h with z | z
      · exact .inl z
      · exact .inr (List.mem_append_left _ z)
    · rw [h]
      exact .inr (List.mem_append_right _ List.mem_cons_self)
theorem Bfs.next (hn : n ≤ 1024) (B : Bfs n s0 nx bad K L lv us beh vs j n) (hj : j < lv.length) : Bfs n s0 nx bad K L lv us beh vs (j + 1) 0 := by
  refine ⟨B.lvP, B.lvAll, B.usP, B.behP, B.vsP, fun v hv u hu => ?_, B.known, fun j' i' T' h hi' hT' => B.here j' i' T' (by omega) hi' hT', B.fresh, B.only⟩
  obtain ⟨u0, h0, _⟩ := paired_getR B.lvP (List.getElem?_eq_getElem hj)
  have := B.past v hv u0 h0
  obtain ⟨a1, a2⟩ := List.getElem?_eq_some_iff.mp h0
  obtain ⟨b1, b2⟩ := List.getElem?_eq_some_iff.mp hu
  have lt := List.pairwise_iff_getElem.mp B.usP j (j + 1) a1 b1 (by omega)
  rw [a2, b2] at lt
  rw [rk_snoc] at this ⊢
  omega
theorem Bfs.up (hn : n ≤ 1024) (B : Bfs n s0 nx bad K L lv us beh vs lv.length 0) : Bfs n s0 nx bad K (L + 1) beh vs [] [] 0 0 := by
  have all : ∀ (j0 k : Nat) (O : S), lv[j0]? = some O → k < n → bad O k = false ∧ K (nx O k) := fun j0 k O h hk => B.here j0 k O (.inl (List.getElem?_eq_some_iff.mp h).1) hk h
  have knew : ∀ w T, Rch n s0 nx bad T w → w.length ≤ L + 1 → K T := fun w T h e => by
    by_cases q : w.length ≤ L
    · exact B.known w T h q
    · cases h with
      | nil => exact absurd (Nat.zero_le _) q
      | @snoc O w k r hk bk =>
        have wl : w.length = L := by
          rw [List.length_append] at e q
          simp at e q
          omega
        rcases B.from_ (k := k) hn r wl with ⟨v0, h1, h2⟩ | ⟨j0, u0, h1, h2, h3, h4, h5⟩
        · exact B.known (v0 ++ [k]) _ (.snoc h1.1 hk bk) (by rw [List.length_append]; show v0.length + 1 ≤ L; omega)
        · exact (all j0 k O h1 hk).2
  refine ⟨B.behP, fun T u h e => ?_, B.vsP, .nil, .nil, fun v hv => (by cases hv), knew, fun j' i' T h => by omega, fun w T k h e hk => ?_, fun T h => ?_⟩
  · rcases B.only T (knew u T h.1 (by omega)) with ⟨v, h1, h2⟩ | z
    · have := lst_unique hn h h1
      subst this
      omega
    · exact z
  · by_cases q : w.length < L
    · exact B.fresh w T k h q hk
    · rcases B.from_ (k := k) hn h (by omega) with ⟨v0, h1, h2⟩ | ⟨j0, u0, h1, h2, h3, h4, h5⟩
      · exact B.fresh v0 T k h1.1 h2 hk
      · exact (all j0 k T h1 hk).1
  · rcases B.only T h with ⟨v, h1, h2⟩ | z
    · exact .inl ⟨v, h1, by omega⟩
    · obtain ⟨i', hi'⟩ := List.getElem?_of_mem z
      obtain ⟨v, _, h1, h2⟩ := paired_getR B.behP hi'
      exact .inl ⟨v, h1, by omega⟩
/-- the first bad step that is met ends the least bad way of all -/
theorem Bfs.first (hn : n ≤ 1024) (B : Bfs n s0 nx bad K L lv us beh vs j i) (hi : i < n) (hT : lv[j]? = some T) (hb : bad T i = true) :
    ∃ u, us[j]? = some u ∧ Lst n s0 nx bad T u ∧ u.length = L ∧ ∀ w O k, Rch n s0 nx bad O w → k < n → bad O k = true → rk (u ++ [i]) ≤ rk (w ++ [k]) := by
  obtain ⟨u, hu, hL, hl⟩ := paired_getR B.lvP hT
  refine ⟨u, hu, hL, hl, fun w O k h hk hbad => Classical.byContradiction fun z => ?_⟩
  have z : rk (w ++ [k]) < rk (u ++ [i]) := by omega
  have lo := h.low hn
  have lu := hL.1.low hn
  have ll := rk_len (v := w ++ [k]) (w := u ++ [i]) (fun d hd => by
    rcases List.mem_append.mp hd with q | q
    · exact lo d q
    · rw [List.mem_singleton.mp q]; omega) (fun d hd => by
    rcases List.mem_append.mp hd with q | q
    · exact lu d q
    · rw [List.mem_singleton.mp q]; omega) (by omega)
  rw [List.length_append, List.length_append, hl] at ll
  have ll : w.length + 1 ≤ L + 1 := ll
  by_cases q : w.length < L
  · rw [B.fresh w O k h q hk] at hbad
    cases hbad
  · rcases B.from_ (k := k) hn h (by omega) with ⟨v0, h1, h2⟩ | ⟨j0, u0, h1, h2, h3, h4, h5⟩
    · rw [B.fresh v0 O k h1.1 h2 hk] at hbad
      cases hbad
    · rw [(B.here j0 k O (B.ahead hn hi hk hu h2 (by omega)) hk h1).1] at hbad
      cases hbad
/-- where a level is empty there is no bad way -/
theorem Bfs.none_ (hn : n ≤ 1024) (B : Bfs n s0 nx bad K L [] us beh vs j i) {w : List Nat} {O : S} {k : Nat} (h : Rch n s0 nx bad O w) (hk : k < n) : bad O k = false := by
  have short : ∀ {w : List Nat} {O : S}, Rch n s0 nx bad O w → ∃ v, Lst n s0 nx bad O v ∧ v.length < L := by
    intro w O h
    induction h with
    | nil =>
      obtain ⟨v, hv⟩ := lst_ex (.nil : Rch n s0 nx bad s0 [])
      have le := rk_len (hv.1.low hn) (fun d hd => by cases hd) (hv.2 [] .nil)
      have le : v.length = 0 := Nat.le_zero.mp le
      refine ⟨v, hv, Classical.byContradiction fun z => ?_⟩
      have := B.lvAll s0 v hv (by omega)
      cases this
    | @snoc T w i r hi bi ih =>
      obtain ⟨v, hv, hl⟩ := ih
      obtain ⟨u, hu⟩ := lst_ex (Rch.snoc hv.1 hi bi)
      have sn := Rch.snoc hv.1 hi bi
      have le := rk_len (hu.1.low hn) (sn.low hn) (hu.2 _ sn)
      rw [List.length_append] at le
      have le : u.length ≤ v.length + 1 := le
      refine ⟨u, hu, Classical.byContradiction fun z => ?_⟩
      have := B.lvAll _ u hu (by omega)
      cases this
  obtain ⟨v, h1, h2⟩ := short h
  exact B.fresh v O k h1.1 h2 hk
end
end
end Sk


/-! What the search tells. -/
namespace Sk
open PySem PySem.Spec PyProof.Rows L2
def nxP (r : Rule) (pss : List (List Deed)) (S : PSt) (i : Nat) : PSt := match S.hands[i]?, pss[i]? with
  | some x, some ds => (stepP r S i x ds).2
  | _, _ => S
def badP (r : Rule) (pss : List (List Deed)) (S : PSt) (i : Nat) : Bool := match S.hands[i]?, pss[i]? with
  | some x, some ds => (match (stepP r S i x ds).2.hands[i]? with
    | some y => staleP (stepP r S i x ds).1 (stepP r S i x ds).2 y
    | none => false)
  | _, _ => false
abbrev RchP (r : Rule) (pss : List (List Deed)) (S0 : PSt) : PSt → List Nat → Prop := Rch pss.length S0 (nxP r pss) (badP r pss)
abbrev LstP (r : Rule) (pss : List (List Deed)) (S0 : PSt) : PSt → List Nat → Prop := Lst pss.length S0 (nxP r pss) (badP r pss)
/-- what must be known of a case that is searched -/
structure GoodS (r : Rule) (pss : List (List Deed)) (S0 : PSt) (Lm : Nat) : Prop where
  n3 : pss.length ≤ 3
  step : ∀ T w i, RchP r pss S0 T w → i < pss.length → ∃ x ds y, T.hands[i]? = some x ∧ pss[i]? = some ds ∧ StepOk T x ds ∧ (stepP r T i x ds).2.hands[i]? = some y ∧ ((stepP r T i x ds).1.isEx = true → 1 ≤ y.top ∧ y.top ≤ (stepP r T i x ds).2.nexts.length)
  len : ∀ T w, LstP r pss S0 T w → w.length < Lm
  few : ∀ l : List PSt, l.Nodup → (∀ T ∈ l, ∃ w, RchP r pss S0 T w) → l.length < sizeLine
  small : Lm ≤ 900
def JB (r : Rule) (pss : List (List Deed)) (S0 : PSt) (L : Nat) (c : Came) (lv beh : List PSt) (j i : Nat) : Prop :=
  ∃ us vs, Bfs pss.length S0 (nxP r pss) (badP r pss) (fun T => T ∈ c.map Prod.fst) L lv us beh vs j i ∧ (c.map Prod.fst).Nodup ∧ (∀ T ∈ c.map Prod.fst, ∃ w, Way c T w ∧ LstP r pss S0 T w) ∧ beh.length ≤ c.length
theorem Way.mono {c c' : Came} {T : PSt} {w : List Nat} (h : ∀ p ∈ c, p ∈ c') (y : Way c T w) : Way c' T w := by
  induction y with
  | root a => exact .root (h _ a)
  | step a _ ih => exact .step (h _ a) ih
section
variable {r : Rule} {pss : List (List Deed)} {S0 : PSt} {Lm : Nat}
theorem Bfs.congr {S : Type} {n : Nat} {s0 : S} {nx : S → Nat → S} {bad : S → Nat → Bool} {K K' : S → Prop} {L : Nat} {lv : List S} {us : List (List Nat)} {beh : List S} {vs : List (List Nat)} {j i : Nat} (B : Bfs n s0 nx bad K L lv us beh vs j i) (h : ∀ T, K T ↔ K' T) : Bfs n s0 nx bad K' L lv us beh vs j i := by
  have : K = K' := funext fun T => propext (h T)
  rw [← this]
  exact B
theorem sj_of (G : GoodS r pss S0 Lm) : SJ r pss S0 Lm (JB r pss S0) := by
  have hn : pss.length ≤ 1024 := by have := G.n3; omega
  refine ⟨?_, fun L c lv beh j i old hJ hl hi => ?_, fun L c lv beh j hJ hj => ?_, fun L c lv beh hJ hne => ?_, fun L c lv beh j i hJ => ?_⟩
  · have B := Bfs.init pss.length S0 (nxP r pss) (badP r pss) hn
    refine ⟨[[]], [], B.congr fun T => ?_, by simp, fun T hT => ?_, Nat.zero_le _⟩
    · simp
    · have : T = S0 := by simpa using hT
      subst this
      obtain ⟨u, hu⟩ := lst_ex (.nil : RchP r pss T T [])
      have le := rk_len (hu.1.low hn) (fun d hd => by cases hd) (hu.2 [] .nil)
      have : u = [] := List.length_eq_zero_iff.mp (Nat.le_zero.mp le)
      subst this
      exact ⟨[], .root List.mem_cons_self, hu⟩
  · obtain ⟨us, vs, B, nd, wy, bl⟩ := hJ
    obtain ⟨u, hu, hL, hlen⟩ := paired_getR B.lvP hl
    obtain ⟨x, ds, y, hx, hds, sok, hy, bnd⟩ := G.step old u i hL.1 hi
    have enx : nxP r pss old i = (stepP r old i x ds).2 := by unfold nxP; rw [hx, hds]
    have ebad : badP r pss old i = staleP (stepP r old i x ds).1 (stepP r old i x ds).2 y := by unfold badP; rw [hx, hds]; simp only; rw [hy]
    refine ⟨x, ds, y, hx, hds, sok, hy, bnd, ?_⟩
    have oldK : old ∈ c.map Prod.fst := B.known u old hL.1 (by omega)
    obtain ⟨wv, w1, w2⟩ := wy old oldK
    have ewv := lst_unique hn w2 hL
    subst ewv
    have lm := G.len old wv hL
    have ls := G.small
    by_cases hst : staleP (stepP r old i x ds).1 (stepP r old i x ds).2 y = true
    · rw [if_pos hst]
      exact ⟨wv, w1, by omega⟩
    · rw [if_neg hst]
      have nb : badP r pss old i = false := by
        rw [ebad]
        cases q : staleP (stepP r old i x ds).1 (stepP r old i x ds).2 y with
        | false => rfl
        | true => exact absurd q hst
      rw [← enx]
      unfold visit
      by_cases hin : nxP r pss old i ∈ c.map Prod.fst
      · rw [if_pos hin]
        exact ⟨us, vs, B.old hl nb hin, nd, wy, bl⟩
      · rw [if_neg hin]
        obtain ⟨u2, hu2, hL2, hlen2, B2⟩ := B.add hn hi hl nb hin
        rw [hu] at hu2
        have e2 := Option.some.inj hu2
        subst e2
        have least := B.least hn hi hl hu hL hlen nb hin
        have mono : ∀ p ∈ c, p ∈ c ++ [(nxP r pss old i, some (old, i))] := fun p hp => List.mem_append_left _ hp
        refine ⟨us, _, B2.congr fun T => ?_, ?_, fun T hT => ?_, ?_⟩
        · rw [List.map_append, List.mem_append]
          simp
        · rw [List.map_append, List.nodup_append]
          refine ⟨nd, by simp, fun a ha b hb q => hin ?_⟩
          have z : b = nxP r pss old i := by simpa using hb
          rw [← z, ← q]
          exact ha
        · rw [List.map_append, List.mem_append] at hT
          rcases hT with z | z
          · obtain ⟨w, a1, a2⟩ := wy T z
            exact ⟨w, a1.mono mono, a2⟩
          · have z : T = nxP r pss old i := by simpa using z
            subst z
            exact ⟨wv ++ [i], .step (List.mem_append_right _ List.mem_cons_self) (w1.mono mono), least⟩
        · rw [List.length_append, List.length_append]
          show beh.length + 1 ≤ c.length + 1
          omega
  · obtain ⟨us, vs, B, nd, wy, bl⟩ := hJ
    exact ⟨us, vs, B.next hn hj, nd, wy, bl⟩
  · obtain ⟨us, vs, B, nd, wy, bl⟩ := hJ
    refine ⟨⟨vs, [], B.up hn, nd, wy, Nat.zero_le _⟩, ?_⟩
    cases hlv : lv with
    | nil => exact absurd hlv hne
    | cons T l =>
      obtain ⟨u, _, h1, h2⟩ := paired_getR (i := 0) (a := T) B.lvP (by rw [hlv]; rfl)
      have := G.len T u h1
      omega
  · obtain ⟨us, vs, B, nd, wy, bl⟩ := hJ
    have := G.few (c.map Prod.fst) nd fun T hT => by
      obtain ⟨w, _, h⟩ := wy T hT
      exact ⟨w, h.1⟩
    rw [List.length_map] at this
    exact ⟨this, by omega⟩
/-- what is told: no weaving is stale, or the least one that is -/
def spSearchB (K : PySem.W.Frag) : Sp := fun vs H Q _ => ∃ (a p rl : Addr) (S0 : PSt) (pss : List (List Deed)) (r : Rule) (Lm : Nat), vs = [.ref a, .ref p, .ref rl] ∧ StAt H a S0 ∧ PgAt K H p pss ∧ RuleAt H rl r ∧ r.pos ∧ GoodS r pss S0 Lm ∧
  (∀ H', Same H H' → (∀ T w i, RchP r pss S0 T w → i < pss.length → badP r pss T i = false) → Q .non H') ∧
  ∀ D H' T u i, Same H H' → H D = none → RchP r pss S0 T u → i < pss.length → badP r pss T i = true → u.length < Lm → (∀ w O k, RchP r pss S0 O w → k < pss.length → badP r pss O k = true → rk (u ++ [i]) ≤ rk (w ++ [k])) → H' D = some (.lst (vN (u ++ [i]))) → Q (.ref D) H'
theorem key_once {c : Came} (nd : (c.map Prod.fst).Nodup) {T : PSt} {a b : Option (PSt × Nat)} (h1 : (T, a) ∈ c) (h2 : (T, b) ∈ c) : a = b := by
  induction c with
  | nil => cases h1
  | cons p c ih =>
    obtain ⟨n1, n2⟩ := List.nodup_cons.mp nd
    rcases List.mem_cons.mp h1 with q | q
    · rcases List.mem_cons.mp h2 with z | z
      · rw [← q] at z
        exact (Prod.mk.inj z).2.symm
      · exact absurd (List.mem_map.mpr ⟨_, z, rfl⟩) (by rw [← q] at n1; exact n1)
    · rcases List.mem_cons.mp h2 with z | z
      · exact absurd (List.mem_map.mpr ⟨_, q, rfl⟩) (by rw [← z] at n1; exact n1)
      · exact ih n2 q z
theorem way_once {c : Came} (nd : (c.map Prod.fst).Nodup) {T : PSt} {u v : List Nat} (h1 : Way c T u) (h2 : Way c T v) : u = v := by
  induction h1 generalizing v with
  | @root S a =>
    cases h2 with
    | root _ => rfl
    | step b _ =>
      have := key_once nd a b
      cases this
  | @step S O h w a y ih =>
    cases h2 with
    | root b =>
      have := key_once nd a b
      cases this
    | @step _ O2 h2 w2 b y2 =>
      have e := Option.some.inj (key_once nd a b)
      obtain ⟨e1, e2⟩ := Prod.mk.inj e
      subst e1 e2
      rw [ih y2]
theorem searchB_to {K : PySem.W.Frag} {vs : List V} {H : Hp} {Q : VK} {E : XK} (h : spSearchB K vs H Q E) : spSearch K vs H Q E := by
  obtain ⟨a, p, rl, S0, pss, r, Lm, ev, hS, pg, ru, rp, G, f0, f1⟩ := h
  have hn : pss.length ≤ 1024 := by have := G.n3; omega
  refine ⟨a, p, rl, S0, pss, r, Lm, JB r pss S0, ev, hS, pg, ru, rp, by have := G.n3; omega, sj_of G, fun H' L c s hJ => ?_, fun D H' L c lv beh j i old x ds y wv s nD hJ hl hx hds hy hst wy eD => ?_⟩
  · obtain ⟨us, vs, B, _⟩ := hJ
    exact f0 H' s fun T w i h hi => B.none_ hn h hi
  · obtain ⟨us, vs, B, nd, wy2, bl⟩ := hJ
    have hi : i < pss.length := (List.getElem?_eq_some_iff.mp hds).1
    have hb : badP r pss old i = true := by
      unfold badP
      rw [hx, hds]
      simp only
      rw [hy]
      exact hst
    obtain ⟨u, hu, hL, hlen, least⟩ := B.first hn hi hl hb
    have oldK : old ∈ c.map Prod.fst := B.known u old hL.1 (by omega)
    obtain ⟨w, w1, w2⟩ := wy2 old oldK
    have e1 := way_once nd wy w1
    have e2 := lst_unique hn w2 hL
    subst e1 e2
    exact f1 D H' old wv i s nD hL.1 hi hb (G.len _ _ hL) least eD
end
end Sk


/-! States of the search are those of the machine. -/
namespace Sk
open PySem PySem.Spec PyProof.Rows L2
section
variable {r : Rule} {zs : List Int} {pss : List (List Deed)}
abbrev at0 (r : Rule) (zs : List Int) (pss : List (List Deed)) (w : List Nat) : Mach := (play r (Mach.begun zs pss) w).2
theorem at0_snoc (w : List Nat) (i : Nat) : at0 r zs pss (w ++ [i]) = (turn r (at0 r zs pss w) i).2 := by
  unfold at0
  rw [play_append]
  rfl
/-- one step of both -/
theorem step_at0 (h3 : pss.length ≤ 3) (w : List Nat) {i : Nat} (hi : i < pss.length) : ∃ (h : Hand) (h' : Hand), (at0 r zs pss w).hands[i]? = some h ∧ pss[i]? = some h.deeds ∧ (at0 r zs pss w).ps.hands[i]? = some h.ph ∧
    stepP r (at0 r zs pss w).ps i h.ph h.deeds = ((turn r (at0 r zs pss w) i).1, (at0 r zs pss (w ++ [i])).ps) ∧ (at0 r zs pss (w ++ [i])).ps.hands[i]? = some h'.ph ∧
    (at0 r zs pss (w ++ [i])).stale = ((at0 r zs pss w).stale || staleP (turn r (at0 r zs pss w) i).1 (at0 r zs pss (w ++ [i])).ps h'.ph) ∧ ((turn r (at0 r zs pss w) i).1.isEx = true → 1 ≤ h'.ph.top ∧ h'.ph.top ≤ (at0 r zs pss (w ++ [i])).ps.nexts.length) := by
  have O := (Okm.begun zs pss h3).play (w := w) (r := r)
  have Td := (Toldm.begun zs pss).play (r := r) (w := w)
  have hN : (at0 r zs pss w).hands.length = pss.length := Td.1
  rw [at0_snoc]
  unfold at0 at *
  generalize (play r (Mach.begun zs pss) w).2 = s at *
  obtain ⟨h, hh⟩ : ∃ h, s.hands[i]? = some h := ⟨_, List.getElem?_eq_getElem (by omega)⟩
  have sg := step_go O.bnd.len O.base O.fit hh
  have tg := turn_some (r := r) hh
  obtain ⟨h', e1, e2, e3, e4, e5⟩ := (Go.out O hh (go_kind r s i h)).hand
  rw [tg]
  refine ⟨h, h', hh, (Td.2 i h hh).2, ?_, sg, ?_, e4, e5⟩
  · show (s.hands.map Hand.ph)[i]? = _
    rw [List.getElem?_map, hh]
    rfl
  · show ((go r s i h).2.hands.map Hand.ph)[i]? = _
    rw [List.getElem?_map, e1, List.getElem?_set_self (lt_of_get hh)]
    rfl
theorem nx_at0 (h3 : pss.length ≤ 3) (w : List Nat) {i : Nat} (hi : i < pss.length) : nxP r pss (at0 r zs pss w).ps i = (at0 r zs pss (w ++ [i])).ps ∧ (at0 r zs pss (w ++ [i])).stale = ((at0 r zs pss w).stale || badP r pss (at0 r zs pss w).ps i) := by
  obtain ⟨h, h', a1, a2, a3, a4, a5, a6, a7⟩ := step_at0 (r := r) (zs := zs) h3 w hi
  constructor
  · unfold nxP
    rw [a3, a2]
    simp only
    rw [a4]
  · rw [a6]
    unfold badP
    rw [a3, a2]
    simp only
    rw [a4]
    simp only
    rw [a5]
theorem rch_play (h3 : pss.length ≤ 3) {T : PSt} {w : List Nat} (h : RchP r pss (Mach.begun zs pss).ps T w) : T = (at0 r zs pss w).ps ∧ (at0 r zs pss w).stale = false ∧ ∀ i ∈ w, i < pss.length := by
  induction h with
  | nil => exact ⟨rfl, rfl, fun i hi => by cases hi⟩
  | @snoc T w i q hi hb ih =>
    obtain ⟨e1, e2, e3⟩ := ih
    subst e1
    obtain ⟨n1, n2⟩ := nx_at0 (r := r) (zs := zs) h3 w hi
    refine ⟨n1, ?_, fun k hk => ?_⟩
    · rw [n2, e2, hb]
      rfl
    · rcases List.mem_append.mp hk with z | z
      · exact e3 k z
      · rw [List.mem_singleton.mp z]; exact hi
theorem play_rch (h3 : pss.length ≤ 3) : ∀ (m : Nat) (w : List Nat), w.length = m → (∀ i ∈ w, i < pss.length) → (at0 r zs pss w).stale = false → RchP r pss (Mach.begun zs pss).ps (at0 r zs pss w).ps w
  | 0, w, hm, _, _ => by
    have : w = [] := List.length_eq_zero_iff.mp hm
    subst this
    exact .nil
  | m + 1, w, hm, hw, hs => by
    obtain ⟨u, i, e⟩ : ∃ u i, w = u ++ [i] := ⟨w.dropLast, w.getLast (by intro z; rw [z] at hm; cases hm), (List.dropLast_concat_getLast _).symm⟩
    subst e
    have hi : i < pss.length := hw i (List.mem_append_right _ List.mem_cons_self)
    obtain ⟨n1, n2⟩ := nx_at0 (r := r) (zs := zs) h3 u hi
    rw [n2, Bool.or_eq_false_iff] at hs
    have ih := play_rch h3 m u (by rw [List.length_append] at hm; simpa using hm) (fun k hk => hw k (List.mem_append_left _ hk)) hs.1
    rw [← n1]
    exact .snoc ih hi hs.2
/-- a least way has no rests -/
theorem lst_short (h3 : pss.length ≤ 3) (h4 : ∀ ds ∈ pss, ds.length ≤ 4) : ∀ (m : Nat) (w : List Nat) (T : PSt), w.length = m → LstP r pss (Mach.begun zs pss).ps T w → (at0 r zs pss w).toDo r + w.length ≤ 252
  | 0, w, T, hm, _ => by
    have : w = [] := List.length_eq_zero_iff.mp hm
    subst this
    exact todo_begun zs pss h3 h4
  | m + 1, w, T, hm, h => by
    obtain ⟨u, i, e⟩ : ∃ u i, w = u ++ [i] := ⟨w.dropLast, w.getLast (by intro z; rw [z] at hm; cases hm), (List.dropLast_concat_getLast _).symm⟩
    subst e
    obtain ⟨e1, e2, e3⟩ := rch_play h3 h.1
    have hi : i < pss.length := e3 i (List.mem_append_right _ List.mem_cons_self)
    obtain ⟨n1, n2⟩ := nx_at0 (r := r) (zs := zs) h3 u hi
    have e2' := e2
    rw [n2, Bool.or_eq_false_iff] at e2'
    have lu : u.length = m := by rw [List.length_append] at hm; simpa using hm
    have ru := play_rch (r := r) (zs := zs) h3 u.length u rfl (fun k hk => e3 k (List.mem_append_left _ hk)) e2'.1
    have L : LstP r pss (Mach.begun zs pss).ps (at0 r zs pss u).ps u := by
      refine ⟨ru, fun v hv => Classical.byContradiction fun z => ?_⟩
      have := h.2 (v ++ [i]) (by rw [e1, ← n1]; exact .snoc hv hi e2'.2)
      rw [rk_snoc, rk_snoc] at this
      omega
    have ih := lst_short h3 h4 m u _ lu L
    obtain ⟨hd, h', a1, a2, a3, a4, a5, a6, a7⟩ := step_at0 (r := r) (zs := zs) h3 u hi
    have B : Base (at0 r zs pss u) := (Base.begun zs pss).play
    have op : hd.at_ < hd.deeds.length := by
      refine Classical.byContradiction fun z => ?_
      have en : hd.deeds[hd.at_]? = none := List.getElem?_eq_none (by omega)
      have et : turn r (at0 r zs pss u) i = (.rests, at0 r zs pss u) := by
        rw [turn_some a1]
        unfold Sk.go
        rw [en]
      have es : at0 r zs pss (u ++ [i]) = at0 r zs pss u := by rw [at0_snoc, et]
      have := h.2 u (by rw [e1, es]; exact ru)
      rw [rk_snoc] at this
      have p := encR_pos u.reverse
      unfold rk at this
      omega
    have lt := turn_lt (r := r) B a1 op
    rw [at0_snoc, List.length_append]
    show _ + (u.length + 1) ≤ 252
    omega
/-- a case is good if few states are come to -/
theorem goods_of (h3 : pss.length ≤ 3) (h4 : ∀ ds ∈ pss, ds.length ≤ 4) (hz : zs.length ≤ 1000) (few : ∀ l : List PSt, l.Nodup → (∀ T ∈ l, ∃ w, RchP r pss (Mach.begun zs pss).ps T w) → l.length < sizeLine) : GoodS r pss (Mach.begun zs pss).ps 253 := by
  have short : ∀ T w, LstP r pss (Mach.begun zs pss).ps T w → w.length < 253 := fun T w h => by
    have := lst_short h3 h4 w.length w T rfl h
    omega
  refine ⟨h3, fun T w i h hi => ?_, short, few, by decide⟩
  obtain ⟨u, hu⟩ := lst_ex h
  have ul := short T u hu
  obtain ⟨e1, _, _⟩ := rch_play h3 hu.1
  subst e1
  obtain ⟨hd, h', a1, a2, a3, a4, a5, a6, a7⟩ := step_at0 (r := r) (zs := zs) h3 u hi
  have O := (Okm.begun zs pss h3).play (w := u) (r := r)
  refine ⟨hd.ph, hd.deeds, h'.ph, a3, a2, step_ok O (by omega) a1, ?_, ?_⟩
  · rw [a4]
    exact a5
  · rw [a4]
    exact a7
end
end Sk


/-! Few states are come to, where going through them all has counted them. -/
namespace Sk
open PySem PySem.Spec PyProof.Rows L2
section
variable {r : Rule} {zs : List Int} {pss : List (List Deed)}
/-- each state is come to by a short way too -/
theorem short_way (h3 : pss.length ≤ 3) (h4 : ∀ ds ∈ pss, ds.length ≤ 4) : ∀ (m : Nat) (w : List Nat), w.length = m → (∀ i ∈ w, i < pss.length) → ∃ u, (∀ i ∈ u, i < pss.length) ∧ (at0 r zs pss u).ps = (at0 r zs pss w).ps ∧ (at0 r zs pss u).toDo r + u.length ≤ 252
  | 0, w, hm, _ => by
    have : w = [] := List.length_eq_zero_iff.mp hm
    subst this
    exact ⟨[], fun i hi => (by cases hi), rfl, todo_begun zs pss h3 h4⟩
  | m + 1, w, hm, hw => by
    obtain ⟨v, i, e⟩ : ∃ u i, w = u ++ [i] := ⟨w.dropLast, w.getLast (by intro z; rw [z] at hm; cases hm), (List.dropLast_concat_getLast _).symm⟩
    subst e
    have hi : i < pss.length := hw i (List.mem_append_right _ List.mem_cons_self)
    obtain ⟨u, u1, u2, u3⟩ := short_way h3 h4 m v (by rw [List.length_append] at hm; simpa using hm) fun k hk => hw k (List.mem_append_left _ hk)
    obtain ⟨n1, _⟩ := nx_at0 (r := r) (zs := zs) h3 v hi
    obtain ⟨n2, _⟩ := nx_at0 (r := r) (zs := zs) h3 u hi
    obtain ⟨hd, h', a1, _⟩ := step_at0 (r := r) (zs := zs) h3 u hi
    have B : Base (at0 r zs pss u) := (Base.begun zs pss).play
    by_cases op : hd.at_ < hd.deeds.length
    · have lt := turn_lt (r := r) B a1 op
      refine ⟨u ++ [i], fun k hk => ?_, ?_, ?_⟩
      · rcases List.mem_append.mp hk with q | q
        · exact u1 k q
        · rw [List.mem_singleton.mp q]; exact hi
      · rw [← n1, ← n2, u2]
      · rw [at0_snoc, List.length_append]
        show _ + (u.length + 1) ≤ 252
        omega
    · have en : hd.deeds[hd.at_]? = none := List.getElem?_eq_none (by omega)
      have et : turn r (at0 r zs pss u) i = (.rests, at0 r zs pss u) := by
        rw [turn_some a1]
        unfold Sk.go
        rw [en]
      have es : at0 r zs pss (u ++ [i]) = at0 r zs pss u := by rw [at0_snoc, et]
      refine ⟨u, u1, ?_, u3⟩
      rw [← n1, ← u2, n2, es]
theorem succs_inv {S R : PSt} : ∀ {n : Nat}, R ∈ succs r pss S n → ∃ i, i < pss.length ∧ R = nxP r pss S i
  | 0, h => by cases h
  | n + 1, h => by
    unfold succs at h
    split at h
    · rename_i x ds h1 h2
      rcases List.mem_cons.mp h with q | q
      · refine ⟨n, (List.getElem?_eq_some_iff.mp h2).1, ?_⟩
        rw [q]
        unfold nxP
        rw [h1, h2]
      · exact succs_inv q
    · exact succs_inv h
/-- how many are come to -/
theorem few_of {k f m : Nat} (h3 : pss.length ≤ 3) (h4 : ∀ ds ∈ pss, ds.length ≤ 4) (hk : k ≤ 100) (hp : ∀ ds ∈ pss, ∀ v, Deed.push v ∈ ds → v = 0) (e : close r pss f [(Mach.begun (List.replicate k 0) pss).ps] .nil 0 = some m) (hm : m < sizeLine) :
    ∀ l : List PSt, l.Nodup → (∀ T ∈ l, ∃ w, RchP r pss (Mach.begun (List.replicate k 0) pss).ps T w) → l.length < sizeLine := by
  intro l nd hl
  have lowT : ∀ w, (∀ i ∈ w, i < pss.length) → (at0 r (List.replicate k 0) pss w).ps.low := fun w hw => by
    obtain ⟨u, u1, u2, u3⟩ := short_way (r := r) (zs := List.replicate k 0) h3 h4 w.length w rfl hw
    rw [← u2]
    have O := (Okm.begun (List.replicate k 0) pss h3).play (w := u) (r := r)
    have L := (Lim.begun (k := k) hp).play (r := r) (w := u) (Okm.begun (List.replicate k 0) pss h3)
    have Td := (Toldm.begun (List.replicate k 0) pss).play (r := r) (w := u)
    rw [List.length_replicate] at O
    refine low_of L O (by omega) (by omega) fun h hh => ?_
    obtain ⟨i, hi⟩ := List.getElem?_of_mem hh
    exact h4 _ (List.mem_of_getElem? (Td.2 i h hi).2)
  obtain ⟨T, t1, t2, t3⟩ := close_bound (Re := fun S => ∃ w, (∀ i ∈ w, i < pss.length) ∧ S = (at0 r (List.replicate k 0) pss w).ps) e ⟨[], fun i hi => (by cases hi), rfl⟩ (fun S hS R hR => by
    obtain ⟨w, w1, w2⟩ := hS
    obtain ⟨i, hi, eR⟩ := succs_inv hR
    refine ⟨w ++ [i], fun j hj => ?_, ?_⟩
    · rcases List.mem_append.mp hj with q | q
      · exact w1 j q
      · rw [List.mem_singleton.mp q]; exact hi
    · rw [eR, w2]
      exact (nx_at0 (r := r) h3 w hi).1) (fun S hS => by
    obtain ⟨w, w1, w2⟩ := hS
    rw [w2]
    exact lowT w w1)
  have inT : ∀ (n : Nat) (w : List Nat), w.length = n → (∀ i ∈ w, i < pss.length) → (at0 r (List.replicate k 0) pss w).ps.num ∈ T.all := by
    intro n
    induction n with
    | zero =>
      intro w hn _
      have : w = [] := List.length_eq_zero_iff.mp hn
      subst this
      exact t2
    | succ n ih =>
      intro w hn hw
      obtain ⟨v, i, ew⟩ : ∃ u i, w = u ++ [i] := ⟨w.dropLast, w.getLast (by intro z; rw [z] at hn; cases hn), (List.dropLast_concat_getLast _).symm⟩
      subst ew
      have hi : i < pss.length := hw i (List.mem_append_right _ List.mem_cons_self)
      have hv : ∀ j ∈ v, j < pss.length := fun j hj => hw j (List.mem_append_left _ hj)
      have iv := ih v (by rw [List.length_append] at hn; simpa using hn) hv
      obtain ⟨hd, h', a1, a2, a3, a4, _⟩ := step_at0 (r := r) (zs := List.replicate k 0) h3 v hi
      refine t3 _ ⟨v, hv, rfl⟩ iv _ ?_
      have := succs_mem (r := r) (pss := pss) a3 a2 hi
      rw [a4] at this
      exact this
  have := nodup_len (l := l.map PSt.num) (m := T.all) ?_ fun x hx => ?_
  · rw [List.length_map] at this
    omega
  · rw [List.nodup_iff_pairwise_ne, List.pairwise_map]
    refine List.Pairwise.imp_of_mem (fun {a b} ha hb hne q => hne ?_) (List.nodup_iff_pairwise_ne.mp nd)
    obtain ⟨w1, y1⟩ := hl a ha
    obtain ⟨w2, y2⟩ := hl b hb
    obtain ⟨e1, _, e3⟩ := rch_play h3 y1
    obtain ⟨e4, _, e6⟩ := rch_play h3 y2
    refine num_inj ?_ ?_ q
    · rw [e1]; exact lowT w1 e3
    · rw [e4]; exact lowT w2 e6
  · obtain ⟨S, hS, eS⟩ := List.mem_map.mp hx
    obtain ⟨w, y⟩ := hl S hS
    obtain ⟨e1, _, e3⟩ := rch_play h3 y
    rw [← eS, e1]
    exact inT w.length w rfl e3
end
end Sk


/-! stale, by a rule by which none is. -/
namespace Sk
open PySem PySem.Spec PyProof.Rows L2
structure TxSt (K : PySem.W.Frag) (mg : Str → Option Value) : Prop where
  stale : DefAt K mg "stale" s_stale
  first_stale : DefAt K mg "first_stale" s_first_stale
  is_safe_rule : DefAt K mg "is_safe_rule" s_is_safe_rule
  may_be_stale : DefAt K mg "may_be_stale" s_may_be_stale
  sum : mg "sum" = none
  len : mg "len" = none
  enumerate : mg "enumerate" = none
  any : mg "any" = none
/-- the rule alone keeps it fresh -/
def safeB (r : Rule) (ps : List (List Deed)) : Bool := match r with
  | .keeps => true
  | .counts m => decide (total ps < m)
  | .marks hs => decide (hs.length = ps.length)
def spSafeRule (K : PySem.W.Frag) : Sp := fun vs H Q _ => ∃ (p rl : Addr) (ps : List (List Deed)) (r : Rule), vs = [.ref p, .ref rl] ∧ Progs K H p ps ∧ ps.length ≤ 1000 ∧ RuleAt H rl r ∧ ∀ H', Same H H' → Q (.bl (safeB r ps)) H'
def spFirstSafe (K : PySem.W.Frag) : Sp := fun vs H Q _ => ∃ (m : Int) (p rl : Addr) (ps : List (List Deed)) (r : Rule), vs = [.int m, .ref p, .ref rl] ∧ Progs K H p ps ∧ ps.length ≤ 1000 ∧ RuleAt H rl r ∧ safeB r ps = true ∧ ∀ H', Same H H' → Q .non H'
def spStaleSafe (K : PySem.W.Frag) : Sp := fun vs H Q _ => ∃ (a p rl : Addr) (xs : List Int) (ps : List (List Deed)) (r : Rule), vs = [.ref a, .ref p, .ref rl] ∧ Given K H a p rl xs ps r ∧ safeB r ps = true ∧ ∀ H', Same H H' → Q .non H'
def spNever : Sp := fun _ _ _ _ => False
section
variable {P : Program} {w : World} {K : PySem.W.Frag} {mg : Str → Option Value} {base : Heap}
theorem scSafeRule : FnScope ["programs", "rule", "deeds"] ["programs", "rule"] (defScope s_is_safe_rule) := ⟨rfl, rfl, rfl, by decide +kernel, rfl, by decide +kernel, by decide +kernel⟩
theorem cal_is_safe_rule (S : TxSt K mg) : C8.Cal P w K mg base 1 "is_safe_rule" (spSafeRule K) [] := by
  obtain ⟨f, fd, F, g⟩ := S.is_safe_rule.ex
  have T := S
  refine cal_of F g (F.bindsN fun _ _ _ _ _ _ us hl => match us, hl with | [_, _], _ => rfl) (fok F scSafeRule (fun vs H Q E h => ?_) (fun cdv A outer s0 H vs Q E hr h => ?_))
  · obtain ⟨p, rl, ps, r, rfl, _⟩ := h
    rfl
  · obtain ⟨p, rl, ps, r, rfl, pg, pn, ru, fin⟩ := h
    refine ⟨_, (pss_cons
    (ps_if (pt_cmpR op_eq (pe_ix ix_tup (pv 1) pe_int (fun _ _ => rfl)) pe_str (nomark _)) (pss_one (ps_ret pe_bl)) pss_nil) (pss_cons
    (ps_if (pt_cmpR op_eq (pe_ix ix_tup (pv 1) pe_int (fun _ _ => rfl)) pe_str (nomark _)) (pss_one (ps_ret (pe_cmpR op_gt (pe_ix ix_tup (pv 1) pe_int (fun _ _ => rfl)) (pe_callB (cr_sum rfl) (by rfl) T.sum (by decide +kernel) (pa_cons (pe_lc (own := [("deeds", 2)]) (g := gName 2) (tt := tYes) rfl scSafeRule.nd (pi_list (pv 0)) (blkOk_by (N := (["programs", "rule", "deeds"])) (sc := defScope s_is_safe_rule) (by decide +kernel)) (fun _ _ _ _ _ => pg_name (i := 2) scSafeRule.nd rfl (Or.inl rfl)) (fun _ _ _ _ _ => pts_nil) (fun _ _ _ _ _ => (pe_callB (r := rLenOf K) call_lenK (by rfl) T.len PySem.boot_len (pa_cons (pv 2) pa_nil)))) pa_nil)) (nomark _)))) pss_nil) (pss_one
    (ps_ret (pe_cmpR op_eq (pe_callB call_len_seq (by rfl) T.len PySem.boot_len (pa_cons (pe_ix ix_tup (pv 1) pe_int (fun _ _ => rfl)) pa_nil)) (pe_callB call_len_seq (by rfl) T.len PySem.boot_len (pa_cons (pv 0) pa_nil)) (nomark _)))))), ?_⟩
    obtain ⟨ls, p1, p2⟩ := id pg
    have ll := paired_len p2
    cases r with
    | keeps =>
      have e : H rl = some (.tup [.str sKeeps]) := ru
      exact ⟨_, rfl, rl, _, _, .str sKeeps, rfl, rfl, SqT.of e, at_zero, rfl, _, rfl, iteT (fin H (.refl H))⟩
    | counts m =>
      have e : H rl = some (.tup [.str sCounts, .int (m : Int)]) := ru
      refine ⟨_, rfl, rl, _, _, .str sCounts, rfl, rfl, SqT.of e, at_zero, rfl, _, rfl, iteF ⟨_, rfl, rl, _, _, .str sCounts, rfl, rfl, SqT.of e, at_zero, rfl, _, rfl, iteT ?_⟩⟩
      refine ⟨_, rfl, rl, _, _, .int (m : Int), rfl, rfl, SqT.of e, at_one, ?_⟩
      refine ⟨_, rfl, p, rfl, ⟨_, SqL.of p1⟩, fun Sm nSm => ?_⟩
      refine lc_list (K := K) (a := p) (xs := ls.map V.ref) (fun i H1 => Same H H1 ∧ H1 Sm = some (.lst (vN ((ps.map List.length).take i)))) ⟨same_upd nSm, upd_same⟩ (fun i H1 _ z => SqL.of (z.1 _ _ p1)) ?_ ?_
      · rintro i y H9 hy ⟨s9, eS⟩
        have hi := (List.getElem?_eq_some_iff.mp hy).1
        rw [List.length_map] at hi
        have hip : i < ps.length := by omega
        obtain ⟨l, el, tl, e1, e2⟩ := paired_get p2 (List.getElem?_eq_getElem hip)
        have lr := paired_len e2
        have ey : y = V.ref l := by
          rw [List.getElem?_map, el] at hy
          exact (Option.some.inj hy).symm
        subst ey
        refine ⟨rfl, tyes ⟨_, rfl, l, _, rfl, .inl (SqL.of (s9 _ _ e1)), _, eS, ?_, sameN s9 nSm, ?_⟩⟩
        · rw [List.length_map, List.length_take, List.length_map, sizeLine_eq]
          omega
        · rw [List.length_map] at lr
          rw [upd_same, List.take_add_one, List.getElem?_map, List.getElem?_eq_getElem hip]
          unfold vN
          rw [List.map_append, List.length_map, lr]
          rfl
      · rintro H9 ⟨s9, eS⟩
        rw [List.take_of_length_le (by rw [List.length_map, List.length_map]; omega)] at eS
        refine ⟨Sm, (ps.map List.length).map fun n : Nat => (n : Int), rfl, SqL.of (by rw [← vN_int]; exact eS), ?_⟩
        rw [sum_nat, show (ps.map List.length).sum = total ps from rfl]
        refine ⟨_, _, rfl, rfl, ?_⟩
        have q := fin H9 s9
        rw [show safeB (.counts m) ps = decide (((total ps : Nat) : Int) < (m : Int)) from by
          show decide (total ps < m) = _
          by_cases z : total ps < m
          · rw [decide_eq_true z, decide_eq_true (by omega)]
          · rw [decide_eq_false z, decide_eq_false (by omega)]] at q
        exact q
    | marks hs =>
      obtain ⟨u, e, eu⟩ := id ru
      refine ⟨_, rfl, rl, _, _, .str sMarks, rfl, rfl, SqT.of e, at_zero, rfl, _, rfl, iteF ⟨_, rfl, rl, _, _, .str sMarks, rfl, rfl, SqT.of e, at_zero, rfl, _, rfl, iteF ?_⟩⟩
      refine ⟨_, rfl, rl, _, _, .ref u, rfl, rfl, SqT.of e, at_one, u, _, rfl, .inr (SqT.of eu), _, rfl, p, _, rfl, .inl (SqL.of p1), rfl, ?_⟩
      have q := fin H (.refl H)
      rw [List.length_map, List.length_map, dec_nat, ll]
      exact q
theorem scMay : FnScope ["programs", "hand", "deeds", "others", "at", "row", "deed"] ["programs"] (defScope s_may_be_stale) := ⟨rfl, rfl, rfl, by decide +kernel, rfl, by decide +kernel, by decide +kernel⟩
theorem cal_may_never (S : TxSt K mg) : C8.Cal P w K mg base 1 "may_be_stale" spNever [] := by
  obtain ⟨f, fd, F, g⟩ := S.may_be_stale.ex
  exact cal_of F g (F.bindsN fun _ _ _ _ _ _ us hl => match us, hl with | [_], _ => rfl) (fok F scMay (fun vs H Q E h => h.elim) (fun cdv A outer s0 H vs Q E hr h => h.elim))
theorem scFirstSt : FnScope ["many", "programs", "rule", "plain", "deeds", "deed"] ["many", "programs", "rule"] (defScope s_first_stale) := ⟨rfl, rfl, rfl, by decide +kernel, rfl, by decide +kernel, by decide +kernel⟩
theorem cal_first_safe (S : TxSt K mg) : C8.Cal P w K mg base 2 "first_stale" (spFirstSafe K) [] := by
  obtain ⟨f, fd, F, g⟩ := S.first_stale.ex
  have c_is_safe_rule : C8.Cal P w K mg base 1 "is_safe_rule" (spSafeRule K) [] := cal_is_safe_rule S
  have c_may_be_stale : C8.Cal P w K mg base 1 "may_be_stale" spNever [] := cal_may_never S
  refine cal_of F g (F.bindsN fun _ _ _ _ _ _ us hl => match us, hl with | [_, _, _], _ => rfl) (fok F scFirstSt (fun vs H Q E h => ?_) (fun cdv A outer s0 H vs Q E hr h => ?_))
  · obtain ⟨m, p, rl, ps, r, rfl, _⟩ := h
    rfl
  · obtain ⟨m, p, rl, ps, r, rfl, pg, pn, ru, sf, fin⟩ := h
    refine ⟨_, (pss_cons
    (ps_if (PW.pt (pw_or (pt_val (C8.pe_c c_is_safe_rule hr (by decide) (by rfl) (pa_cons (pv 1) (pa_cons (pv 2) pa_nil)))) (pw_or1 (pt_not (pt_val (C8.pe_c c_may_be_stale hr (by decide) (by rfl) (pa_cons (pv 1) pa_nil))))))) (pss_one (ps_ret pe_non)) pss_nil) (pss_cons
    (ps_no) (pss_one
    (ps_no)))), ?_⟩
    refine ⟨_, rfl, _, rfl, p, rl, ps, r, rfl, pg, pn, ru, fun H1 s1 => ⟨_, rfl, ?_⟩⟩
    rw [sf]
    exact iteT (iteT (fin H1 s1))
theorem scStale : FnScope ["values", "programs", "rule"] ["values", "programs", "rule"] (defScope s_stale) := ⟨rfl, rfl, rfl, by decide +kernel, rfl, by decide +kernel, by decide +kernel⟩
theorem cal_stale_safe (S : TxSt K mg) (TK : TxK K mg) : C8.Cal P w K mg base 7 "stale" (spStaleSafe K) [] := by
  obtain ⟨f, fd, F, g⟩ := S.stale.ex
  have T := S
  have c_check_all : C8.Cal P w K mg base 6 "check_all" (spChkA K) [] := cal_check_all TK
  have c_first_stale : C8.Cal P w K mg base 2 "first_stale" (spFirstSafe K) [] := cal_first_safe S
  refine cal_of F g (F.bindsN fun _ _ _ _ _ _ us hl => match us, hl with | [_, _, _], _ => rfl) (fok F scStale (fun vs H Q E h => ?_) (fun cdv A outer s0 H vs Q E hr h => ?_))
  · obtain ⟨a, p, rl, xs, ps, r, rfl, _⟩ := h
    rfl
  · obtain ⟨a, p, rl, xs, ps, r, rfl, G, sf, fin⟩ := h
    refine ⟨_, (pss_cons
    (ps_expr (C8.pe_c c_check_all hr (by decide) (by rfl) (pa_cons (pv 0) (pa_cons (pv 1) (pa_cons (pv 2) pa_nil))))) (pss_one
    (ps_ret (C8.pe_c c_first_stale hr (by decide) (by rfl) (pa_cons (pe_callB call_len_seq (by rfl) T.len PySem.boot_len (pa_cons (pv 0) pa_nil)) (pa_cons (pv 1) (pa_cons (pv 2) pa_nil))))))), ?_⟩
    refine ⟨_, rfl, _, rfl, _, rfl, a, p, rl, xs, ps, r, rfl, G.vals, G.fv, G.pg, G.ft, G.ru, G.rf, fun H1 s1 => ?_⟩
    have n3 := G.ft.2.1
    exact ⟨_, rfl, a, _, rfl, .inl (s1.seq G.vals), _, rfl, _, rfl, _, p, rl, ps, r, rfl, G.pg.same s1, by omega, G.ru.same s1, sf, fun H2 s2 => fin H2 (s1.trans s2)⟩
end
end Sk


/-! stale in full: its parts. -/
namespace Sk
open PySem PySem.Spec PyProof.Rows L2
def plainD : Deed → Deed := mapD fun _ => 0
def spPlain (K : PySem.W.Frag) : Sp := fun vs H Q _ => ∃ (t : Addr) (d : Deed), vs = [.ref t] ∧ SqT K H t (rowV d.row) ∧ ∀ u H', Same H H' → SqT K H' u (rowV (plainD d).row) → Q (.ref u) H'
section
variable {P : Program} {w : World} {K : PySem.W.Frag} {mg : Str → Option Value} {base : Heap}
theorem scPlain : FnScope ["deed"] ["deed"] (defScope s_without_value) := ⟨rfl, rfl, rfl, by decide +kernel, rfl, by decide +kernel, by decide +kernel⟩
theorem cal_without_value {pp : Addr} (D : DefAt K mg "without_value" s_without_value) (TP : TxPop K mg pp) : C8.Cal P w K mg base 1 "without_value" (spPlain K) [] := by
  obtain ⟨f, fd, F, g⟩ := D.ex
  refine cal_of F g (F.bindsN fun _ _ _ _ _ _ us hl => match us, hl with | [_], _ => rfl) (fok F scPlain (fun vs H Q E h => ?_) (fun cdv A outer s0 H vs Q E hr h => ?_))
  · obtain ⟨t, d, rfl, _⟩ := h
    rfl
  · obtain ⟨t, d, rfl, hS, fin⟩ := h
    refine ⟨_, (pss_cons
    (ps_if (pt_cmpR (op_eqD hr.units) (pv 0) (pe_glob (v := .ref pp) rfl TP.g rfl) (nomark _)) (pss_one (ps_ret (pe_glob (v := .ref pp) rfl TP.g rfl))) pss_nil) (pss_one
    (ps_ret (pe_tup (pa_cons pe_str (pa_cons pe_int pa_nil)))))), ?_⟩
    have hL : Lay d.row := deed_lay d
    refine ⟨_, rfl, _, _, row_dp hS, .tup (TP.at_ _) (.cons (.str _) .nil), hL, pop_lay, _, rfl, ?_⟩
    rw [eqv_pop]
    cases d with
    | pop => exact iteT (fin pp H (.refl _) (TP.at_ _))
    | push v =>
      refine iteF ⟨by show 2 ≤ sizeLine; decide, fun u nu => ?_⟩
      exact fin u _ (same_upd nu) (SqT.of upd_same)
end
/-- may_be_stale's promise -/
def spMay (K : PySem.W.Frag) : Sp := fun vs H Q _ => ∃ (p : Addr) (ps : List (List Deed)), vs = [.ref p] ∧ Progs K H p ps ∧ Fit ps ∧ ∀ (b : Bool) (H' : Hp), Same H H' → (b = true ↔ MayB ps) → Q (.bl b) H'
def plainPs (ps : List (List Deed)) : List (List Deed) := ps.map (List.map plainD)
abbrev S0of (n : Nat) (ps : List (List Deed)) : PSt := (Mach.begun (List.replicate n 0) (plainPs ps)).ps
def spFirstFull (K : PySem.W.Frag) : Sp := fun vs H Q _ => ∃ (n : Nat) (p rl : Addr) (ps : List (List Deed)) (r : Rule), vs = [.int (n : Int), .ref p, .ref rl] ∧ n ≤ 100 ∧ Progs K H p ps ∧ Fit ps ∧ RuleAt H rl r ∧ r.pos ∧
  (safeB r ps = false → MayB ps → GoodS r (plainPs ps) (S0of n ps) 253) ∧
  (∀ H', Same H H' → (safeB r ps = true ∨ ¬ MayB ps ∨ ∀ T w i, RchP r (plainPs ps) (S0of n ps) T w → i < (plainPs ps).length → badP r (plainPs ps) T i = false) → Q .non H') ∧
  ∀ D H' T u i, Same H H' → H D = none → RchP r (plainPs ps) (S0of n ps) T u → i < (plainPs ps).length → badP r (plainPs ps) T i = true → u.length < 253 → (∀ w O k, RchP r (plainPs ps) (S0of n ps) O w → k < (plainPs ps).length → badP r (plainPs ps) O k = true → rk (u ++ [i]) ≤ rk (w ++ [k])) → H' D = some (.lst (vN (u ++ [i]))) → Q (.ref D) H'
theorem rep_zero : ∀ m : Nat, (List.replicate m [V.int 0]).flatten = (List.replicate m (0 : Int)).map V.int
  | 0 => rfl
  | m + 1 => by
    rw [List.replicate_succ, List.replicate_succ, List.flatten_cons, rep_zero m]
    rfl
theorem paired_mems {α β : Type} {R S : α → β → Prop} : ∀ {as : List α} {bs : List β}, Paired R as bs → (∀ a b, a ∈ as → R a b → S a b) → Paired S as bs
  | [], [], _, _ => .nil
  | _ :: _, _ :: _, .cons r rs, h => .cons (h _ _ List.mem_cons_self r) (paired_mems rs fun a b m => h a b (List.mem_cons_of_mem _ m))
section
variable {P : Program} {w : World} {K : PySem.W.Frag} {mg : Str → Option Value} {base : Heap}
theorem cal_first_full {pp : Addr} (S : TxSt K mg) (SE : TxSe K mg) (TS : TxS K mg) (TT : TxT K mg) (TC : TxC mg) (Dw : DefAt K mg "without_value" s_without_value) (TP : TxPop K mg pp) (c_may_be_stale : C8.Cal P w K mg base 4 "may_be_stale" (spMay K) []) : C8.Cal P w K mg base 7 "first_stale" (spFirstFull K) [] := by
  obtain ⟨f, fd, F, g⟩ := S.first_stale.ex
  have T := S
  have c_is_safe_rule : C8.Cal P w K mg base 1 "is_safe_rule" (spSafeRule K) [] := cal_is_safe_rule S
  have c_search : C8.Cal P w K mg base 6 "search" (spSearch K) [] := cal_search SE TS TT TC
  have c_first_state : C8.Cal P w K mg base 2 "first_state" (spFirstState K) [] := cal_first_state TS
  have c_without_value : C8.Cal P w K mg base 1 "without_value" (spPlain K) [] := cal_without_value Dw TP
  refine cal_of F g (F.bindsN fun _ _ _ _ _ _ us hl => match us, hl with | [_, _, _], _ => rfl) (fok F scFirstSt (fun vs H Q E h => ?_) (fun cdv A outer s0 H vs Q E hr h => ?_))
  · obtain ⟨n, p, rl, ps, r, rfl, _⟩ := h
    rfl
  · obtain ⟨n, p, rl, ps, r, rfl, nl, pg, ft, ru, rp, good, fin0, fin1⟩ := h
    refine ⟨_, (pss_cons
    (ps_if (PW.pt (pw_or (pt_val (C8.pe_c c_is_safe_rule hr (by decide) (by rfl) (pa_cons (pv 1) (pa_cons (pv 2) pa_nil)))) (pw_or1 (pt_not (pt_val (C8.pe_c c_may_be_stale hr (by decide) (by rfl) (pa_cons (pv 1) pa_nil))))))) (pss_one (ps_ret pe_non)) pss_nil) (pss_cons
    (ps_setLc (i := 3) (own := [("deeds", 4)]) (g := gName 4) (tt := tYes) rfl scFirstSt.nd rfl rfl (sw_true rfl rfl rfl (by decide +kernel)) (pi_list (pv 1)) (blkOk_by (N := (["many", "programs", "rule", "plain", "deeds", "deed"])) (sc := defScope s_first_stale) (by decide +kernel)) (fun _ _ _ _ _ => pg_name (i := 4) scFirstSt.nd rfl (Or.inl rfl)) (fun _ _ _ _ _ => pts_nil) (fun _ _ _ _ _ => (pe_lc (own := [("deed", 5)]) (g := gName 5) (tt := tYes) (wi := iList K _) rfl scFirstSt.nd (pi_list (pv 4)) (blkOk_by (by kernel_rfl)) (fun _ _ _ _ _ => pg_name (i := 5) scFirstSt.nd rfl (Or.inl rfl)) (fun _ _ _ _ _ => pts_nil) (fun _ _ _ _ _ => (C8.pe_c c_without_value hr (by decide) (by rfl) (pa_cons (pv 5) pa_nil)))))) (pss_one
    (ps_ret (C8.pe_c c_search hr (by decide) (by rfl) (pa_cons (C8.pe_c c_first_state hr (by decide) (by rfl) (pa_cons (pe_op op_rep (pe_lst (pa_cons pe_int pa_nil)) (pv 0)) (pa_cons (pe_callB call_len_seq (by rfl) T.len PySem.boot_len (pa_cons (pv 1) pa_nil)) pa_nil))) (pa_cons (pv 3) (pa_cons (pv 2) pa_nil)))))))), ?_⟩
    have n3 := ft.2.1
    refine ⟨_, rfl, _, rfl, p, rl, ps, r, rfl, pg, by omega, ru, fun H1 s1 => ⟨_, rfl, ?_⟩⟩
    cases hsf : safeB r ps with
    | true => exact iteT (iteT (fin0 H1 s1 (.inl hsf)))
    | false =>
      refine iteF ⟨_, rfl, p, ps, rfl, pg.same s1, ft, fun b H2 s2 hb => ⟨_, rfl, ?_⟩⟩
      cases b with
      | false => exact iteT (fin0 H2 (s1.trans s2) (.inr (.inl fun z => by have := hb.mpr z; cases this)))
      | true =>
        refine iteF ?_
        have mb := hb.mp rfl
        have G := good hsf mb
        obtain ⟨ls, p1, p2⟩ := pg.same (s1.trans s2)
        have ll := paired_len p2
        refine ⟨_, rfl, p, rfl, ⟨_, SqL.of p1⟩, fun D nD => ?_⟩
        refine lc_list (K := K) (a := p) (xs := ls.map V.ref) (fun i H3 => Same H2 H3 ∧ ∃ qs : List Addr, H3 D = some (.lst (qs.map V.ref)) ∧ Paired (ProgAt K H3) qs ((plainPs ps).take i) ∧ ∀ q ∈ qs, q ≠ D) ⟨same_upd nD, [], upd_same, .nil, fun q hq => (by cases hq)⟩ (fun i H3 _ z => SqL.of (z.1 _ _ p1)) ?_ ?_
        · rintro i y H3 hy ⟨s3, qs, eD, pq, qD⟩
          have hi := (List.getElem?_eq_some_iff.mp hy).1
          rw [List.length_map] at hi
          have hip : i < ps.length := by omega
          obtain ⟨l, el, ts, e1, e2⟩ := paired_get p2 (List.getElem?_eq_getElem hip)
          have ey : y = V.ref l := by
            rw [List.getElem?_map, el] at hy
            exact (Option.some.inj hy).symm
          subst ey
          have tl := e2.len
          rw [List.length_map] at tl
          have d4 := (ft.2.2 _ (List.getElem_mem hip)).1
          have ql := paired_len pq
          rw [List.length_take] at ql
          have e13 := s3 _ _ e1
          refine ⟨rfl, tyes ⟨_, rfl, l, rfl, ⟨_, SqL.of e13⟩, fun C nC => ?_⟩⟩
          refine lc_list (K := K) (a := l) (xs := ts.map V.ref) (fun j H4 => Same H3 H4 ∧ ∃ us : List Addr, H4 C = some (.lst (us.map V.ref)) ∧ Rows K H4 us (((ps[i].map plainD).take j).map Deed.row)) ⟨same_upd nC, [], upd_same, .nil⟩ (fun j H4 _ z => SqL.of (z.1 _ _ e13)) ?_ ?_
          · rintro j y H4 hy ⟨s4, us, eC, ru4⟩
            have hj := (List.getElem?_eq_some_iff.mp hy).1
            rw [List.length_map] at hj
            have hjd : j < ps[i].length := by omega
            obtain ⟨td, etd, sqd⟩ := paired_get (i := j) (b := (ps[i][j]).row) e2 (by rw [List.getElem?_map, List.getElem?_eq_getElem hjd]; rfl)
            have ey : y = V.ref td := by
              rw [List.getElem?_map, etd] at hy
              exact (Option.some.inj hy).symm
            subst ey
            refine ⟨rfl, tyes ⟨_, rfl, td, ps[i][j], rfl, same_tup (s3.trans s4) sqd, fun u H5 s5 eu => ?_⟩⟩
            have eC5 := s5 _ _ eC
            have ul := ru4.len
            rw [List.length_map, List.length_take] at ul
            refine ⟨_, eC5, by rw [List.length_map, sizeLine_eq]; omega, sameN (s4.trans s5) nC, us ++ [u], by rw [upd_same, List.map_append]; rfl, ?_⟩
            rw [List.take_add_one, List.getElem?_map, List.getElem?_eq_getElem hjd, List.map_append]
            exact Rows.append (ru4.mono fun t xs z => sqt_upd eC5 (same_tup s5 z)) (.cons (sqt_upd eC5 eu) .nil)
          · rintro H4 ⟨s4, us, eC, ru4⟩
            rw [List.length_map, List.take_of_length_le (by rw [List.length_map]; omega)] at ru4
            have eD4 := s4 _ _ eD
            refine ⟨_, eD4, by rw [List.length_map, sizeLine_eq]; omega, sameN (s3.trans s4) nD, qs ++ [C], by rw [upd_same, List.map_append]; rfl, ?_, ?_⟩
            · have DC : C ≠ D := (ne_of_none eD nC).symm
              rw [List.take_add_one, show (plainPs ps)[i]? = some (ps[i].map plainD) from by unfold plainPs; rw [List.getElem?_map, List.getElem?_eq_getElem hip]; rfl]
              refine Paired.app (paired_mems pq fun q ds hq z => ((z.same s4).upd eD4 (qD q hq))) (.cons (ProgAt.upd ⟨us, eC, ru4⟩ eD4 DC) .nil)
            · intro q hq
              rcases List.mem_append.mp hq with z | z
              · exact qD q z
              · rw [List.mem_singleton.mp z]
                exact (ne_of_none eD nC).symm
        · rintro H3 ⟨s3, qs, eD, pq, qD⟩
          have pls : (plainPs ps).length = ps.length := List.length_map ..
          rw [List.length_map, List.take_of_length_le (by omega)] at pq
          have p13 := s3 _ _ p1
          refine ⟨by show 1 ≤ sizeLine; decide, fun Z nZ => ?_⟩
          have s4 := same_upd (o := .lst [V.int 0]) nZ
          refine ⟨_, rfl, Z, _, _, rfl, rfl, upd_same, by omega, by omega, ?_, fun Y nY => ?_⟩
          · show 1 * (n : Int).toNat ≤ _
            rw [sizeLine_eq]
            omega
          have s5 := s4.trans (same_upd (o := .lst (List.replicate (n : Int).toNat [V.int 0]).flatten) nY)
          have eY : upd (upd H3 Z (.lst [V.int 0])) Y (.lst (List.replicate (n : Int).toNat [V.int 0]).flatten) Y = some (.lst ((List.replicate n (0 : Int)).map V.int)) := by
            rw [upd_same, Int.toNat_natCast, rep_zero]
          refine ⟨_, rfl, p, _, rfl, .inl (SqL.of (s5 _ _ p13)), Y, List.replicate n 0, ps.length, by rw [List.length_map, ll]; rfl, SqL.of eY, by rw [List.length_replicate]; omega, ft.1, by omega, fun a0 H6 s6 hS => ?_⟩
          have s36 := s5.trans s6
          have s26 := s3.trans s36
          have s06 := (s1.trans s2).trans s26
          rw [← pls, ← begun_ps] at hS
          refine ⟨_, rfl, _, rfl, searchB_to (E := C8.E0) ⟨a0, D, rl, S0of n ps, plainPs ps, r, 253, rfl, hS, ⟨qs, .inl (SqL.of (s36 _ _ eD)), ?_⟩, ru.same s06, rp, G, fun H7 s7 h => fin0 H7 (s06.trans s7) (.inr (.inr h)), fun D2 H7 T u i s7 nD2 h1 h2 h3 h4 h5 h6 => fin1 D2 H7 T u i (s06.trans s7) (none_back s06 nD2) h1 h2 h3 h4 h5 h6⟩⟩
          exact Paired.mono2 (fun q ds z => by
            obtain ⟨ts, z1, z2⟩ := z.same s36
            exact ⟨ts, .inl (SqL.of z1), z2⟩) pq
end
end Sk


namespace Sk
open PySem PySem.Spec PyProof.Rows L2
/-- x in a list of data of any depth -/
def rInLD (K : PySem.W.Frag) : R2 := fun x y H Q => ∃ (d : PyData) (es : List PyData), Dp K H x d ∧ Dp K H y (.list es) ∧ SeqAt.shaped d = true ∧ SeqAt.shaped (.list es) = true ∧ Q (.bl (es.any fun z => PyData.eqv z d)) H
theorem op_inL {X : Cx} (room : X.A.units + 65 < cLine) : OpR X (compareOp .In) (rInLD X.K) := by
  intro pins sh σ H x y u1 u2 Q I q1 q2 ⟨d, es, p1, p2, g1, g2, fin⟩
  have ⟨b1, t1⟩ := Dp.reads I d x u1 p1 q1
  have ⟨b2, t2⟩ := Dp.reads I (.list es) y u2 p2 q2
  exact SeqAt.in_list_reads t2 t1 (SeqAt.canLay_of_shaped g2) (SeqAt.canLay_of_shaped g1) (room_in_shaped g1 room) ⟨.bl _, H, I, rfl, fin⟩
end Sk


/-! may_be_stale. -/
namespace Sk
open PySem PySem.Spec PyProof.Rows L2
def othD (ps : List (List Deed)) (i m : Nat) : List Deed := ((List.range m).filter fun a => decide (a ≠ i)).flatMap fun a => ps.getD a []
theorem othD_succ (ps : List (List Deed)) (i m : Nat) : othD ps i (m + 1) = othD ps i m ++ (if m = i then [] else ps.getD m []) := by
  unfold othD
  rw [List.range_succ, List.filter_append, List.flatMap_append]
  by_cases q : m = i
  · rw [if_pos q, List.filter_cons_of_neg (by simp [q])]
    rfl
  · rw [if_neg q, List.filter_cons_of_pos (by simp [q])]
    simp
def popB (ds : List Deed) : Bool := ds.any fun d => isPop d.row
def mayAt (ps : List (List Deed)) (i : Nat) : Bool := popB (ps.getD i []) && (popB (othD ps i ps.length) && (othD ps i ps.length).any fun d => !isPop d.row)
theorem any_pop (ds : List Deed) : (ds.map fun d => PyData.tuple (rowD d.row)).any (fun z => PyData.eqv z (.tuple [.str sPop])) = popB ds := by
  unfold popB
  rw [List.any_map]
  congr 1
  funext d
  exact eqv_pop d.row
theorem oth_mem {ps : List (List Deed)} {i : Nat} {d : Deed} : d ∈ othD ps i ps.length ↔ ∃ j ds, j ≠ i ∧ ps[j]? = some ds ∧ d ∈ ds := by
  unfold othD
  rw [List.mem_flatMap]
  constructor
  · rintro ⟨j, hj, hd⟩
    obtain ⟨h1, h2⟩ := List.mem_filter.mp hj
    have h1 := List.mem_range.mp h1
    have e : ps.getD j [] = ps[j] := by simp [List.getD, List.getElem?_eq_getElem h1]
    rw [e] at hd
    exact ⟨j, ps[j], of_decide_eq_true h2, List.getElem?_eq_getElem h1, hd⟩
  · rintro ⟨j, ds, h1, h2, h3⟩
    obtain ⟨hl, e⟩ := List.getElem?_eq_some_iff.mp h2
    refine ⟨j, List.mem_filter.mpr ⟨List.mem_range.mpr hl, decide_eq_true h1⟩, ?_⟩
    rw [show ps.getD j [] = ps[j] from by simp [List.getD, List.getElem?_eq_getElem hl], e]
    exact h3
theorem popB_iff {ds : List Deed} : popB ds = true ↔ Deed.pop ∈ ds := by
  unfold popB
  rw [List.any_eq_true]
  constructor
  · rintro ⟨d, h1, h2⟩
    cases d with
    | pop => exact h1
    | push v => cases h2
  · intro h
    exact ⟨.pop, h, by simp [isPop, Deed.row]⟩
theorem mayAt_iff {ps : List (List Deed)} : (∃ i, i < ps.length ∧ mayAt ps i = true) ↔ MayB ps := by
  unfold mayAt MayB
  constructor
  · rintro ⟨i, hi, h⟩
    rw [Bool.and_eq_true, Bool.and_eq_true, popB_iff, popB_iff, List.any_eq_true] at h
    obtain ⟨h1, h2, d, h3, h4⟩ := h
    rw [show ps.getD i [] = ps[i] from by simp [List.getD, List.getElem?_eq_getElem hi]] at h1
    obtain ⟨j, ds, a1, a2, a3⟩ := oth_mem.mp h2
    obtain ⟨j2, ds2, b1, b2, b3⟩ := oth_mem.mp h3
    cases d with
    | pop => simp [isPop, Deed.row] at h4
    | push v => exact ⟨i, ⟨_, List.getElem?_eq_getElem hi, h1⟩, ⟨j, a1, ds, a2, a3⟩, j2, b1, ds2, v, b2, b3⟩
  · rintro ⟨i, ⟨ds, a1, a2⟩, ⟨j, b1, ds1, b2, b3⟩, j2, c1, ds2, v, c2, c3⟩
    obtain ⟨hl, e⟩ := List.getElem?_eq_some_iff.mp a1
    refine ⟨i, hl, ?_⟩
    rw [Bool.and_eq_true, Bool.and_eq_true, popB_iff, popB_iff, List.any_eq_true, show ps.getD i [] = ps[i] from by simp [List.getD, List.getElem?_eq_getElem hl], e]
    exact ⟨a2, oth_mem.mpr ⟨j, ds1, b1, b2, b3⟩, .push v, oth_mem.mpr ⟨j2, ds2, c1, c2, c3⟩, rfl⟩
/-- a part of a comprehension of two fors, gone through -/
theorem lc2_it {J : L2.It} {n : Nat} {G : Hp → Prop} {Y : Nat → Hp → V → Hp → Prop} {H0 : Hp} {Q : Hp → Prop} {body : (Hp → Prop) → V → Hp → Prop} (w : L2.Walk J n G Y) (Pv : Nat → Hp → Prop) (h0 : Pv 0 H0) (hl : ∀ i H, i ≤ n → Pv i H → G H)
    (hs : ∀ i x H H', i < n → Pv i H → Y i H x H' → body (Pv (i + 1)) x H') (hd : ∀ H, Pv n H → Q H) :
    ∃ W : Nat → Nat → Hp → Prop, (∃ m, W 0 m H0) ∧ ∀ i m H, W i m H → (J.stop i H ∧ Q H) ∨ (J.go i H ∧ ∃ Nx : Hp → Prop, (∀ H', Nx H' → ∃ m', m' < m ∧ W (i + 1) m' H') ∧ ∀ x H', J.yld i H x H' → body Nx x H') := by
  refine ⟨fun i m H => m = n - i ∧ i ≤ n ∧ Pv i H, ⟨n, by simp, Nat.zero_le _, h0⟩, ?_⟩
  rintro i m H ⟨rfl, hi, p⟩
  have q := hl i H hi p
  by_cases hlt : i < n
  · exact .inr ⟨w.goes i H hlt q, Pv (i + 1), fun H' p' => ⟨n - (i + 1), by omega, rfl, hlt, p'⟩, fun x H' y => hs i x H H' hlt p (w.yields i H x H' hlt q y)⟩
  · have e : i = n := by omega
    subst e
    exact .inl ⟨w.stops H q, hd H p⟩
section
variable {P : Program} {w : World} {K : PySem.W.Frag} {mg : Str → Option Value} {base : Heap}
theorem cal_may {pp : Addr} (S : TxSt K mg) (TP : TxPop K mg pp) : C8.Cal P w K mg base 4 "may_be_stale" (spMay K) [] := by
  obtain ⟨f, fd, F, g⟩ := S.may_be_stale.ex
  have T := S
  refine cal_of F g (F.bindsN fun _ _ _ _ _ _ us hl => match us, hl with | [_], _ => rfl) (fok F scMay (fun vs H Q E h => ?_) (fun cdv A outer s0 H vs Q E hr h => ?_))
  · obtain ⟨p, ps, rfl, _⟩ := h
    rfl
  · obtain ⟨p, ps, rfl, pg, ft, fin⟩ := h
    refine ⟨_, (pss_cons
    (ps_for PassesOwn.never rfl (pi_enum (by rfl) T.enumerate (pa_cons (pv 0) pa_nil)) (pg_tup (by rfl) (pgs_cons (pg_name (i := 1) scMay.nd rfl (.inr rfl)) (pgs_cons (pg_name (i := 2) scMay.nd rfl (.inl rfl)) pgs_nil))) (pss_cons
    (ps_setLc2 (i := 3) (own := [("at", 4), ("row", 5), ("deed", 6)]) (vs1 := [6]) (g := gTup K 2 (gCons (gName 4) (gCons (gName 5) gNil))) (g1 := gName 6) (tt1 := tYes) (wi1 := iList K _) rfl scMay.nd rfl rfl (sw_true rfl rfl rfl (by decide +kernel)) (pi_enum (by rfl) T.enumerate (pa_cons (pv 0) pa_nil)) (blkOk_by (N := (["programs", "hand", "deeds", "others", "at", "row", "deed"])) (sc := defScope s_may_be_stale) (by decide +kernel)) (by decide) (fun _ _ _ _ _ => (pg_tup (by rfl) (pgs_cons (pg_name (i := 4) scMay.nd rfl (Or.inl rfl)) (pgs_cons (pg_name (i := 5) scMay.nd rfl (Or.inl rfl)) pgs_nil)))) (fun _ _ _ _ _ => pts_one (pt_cmpR op_ne (pv 4) (pv 1) (nomark _))) (fun _ _ _ _ _ => pi_list (pv 5)) (fun _ _ _ _ _ => pg_name (i := 6) scMay.nd rfl (Or.inl rfl)) (fun _ _ _ _ _ => pts_nil) (fun _ _ _ _ _ => (pv 6))) (pss_one
    (ps_if (PW.pt (pw_and (pt_cmpR (op_inL (room65 hr)) (pe_glob (v := .ref pp) rfl TP.g rfl) (pv 2) (by rfl)) (pw_and (pt_cmpR (op_inL (room65 hr)) (pe_glob (v := .ref pp) rfl TP.g rfl) (pv 3) (by rfl)) (pw_and1 (pt_val (pe_callB (cr_any rfl) (by rfl) T.any (by decide +kernel) (pa_cons (pe_lc (own := [("deed", 6)]) (g := gName 6) (tt := tYes) rfl scMay.nd (pi_list (pv 3)) (blkOk_by (N := (["programs", "hand", "deeds", "others", "at", "row", "deed"])) (sc := defScope s_may_be_stale) (by decide +kernel)) (fun _ _ _ _ _ => pg_name (i := 6) scMay.nd rfl (Or.inl rfl)) (fun _ _ _ _ _ => pts_nil) (fun _ _ _ _ _ => (pe_cmpR ((show OpR _ _ (rNeD K) from op_neD hr.units)) (pv 6) (pe_glob (v := .ref pp) rfl TP.g rfl) (nomark _)))) pa_nil))))))) (pss_one (ps_ret pe_bl)) pss_nil)))) (pss_one
    (ps_ret pe_bl))), ?_⟩
    obtain ⟨ls, p1, p2⟩ := id pg
    have ll := paired_len p2
    have n3 := ft.2.1
    refine ⟨_, rfl, p, _, rfl, SqL.of p1, for_it walk_enum (fun i σ H1 => Same H H1 ∧ (∃ u v x : Option V, σ = [some (.ref p), u, v, x, none, none, none]) ∧ ∀ k, k < i → mayAt ps k = false) ⟨.refl H, ⟨none, none, none, rfl⟩, fun k hk => absurd hk (Nat.not_lt_zero k)⟩ (fun i σ H1 _ z => SqL.of (z.1 _ _ p1)) ?_ ?_⟩
    · rintro i y σ H1 H2 hi ⟨s1, ⟨u, v, x, rfl⟩, pst⟩ ⟨T2, yi, yl, rfl, nT, rfl, e1, e2⟩
      rw [List.length_map] at hi
      have hip : i < ps.length := by omega
      obtain ⟨l, el, ts, d1, d2⟩ := paired_get p2 (List.getElem?_eq_getElem hip)
      have e3 : yl = V.ref l := by
        have e4 : (ls.map V.ref)[i]? = some yl := e2
        rw [List.getElem?_map, el] at e4
        exact (Option.some.inj e4).symm
      have e0 : yi = V.int (i : Int) := (Option.some.inj e1).symm
      subst e3 e0
      have s2 := same_upd (o := .tup [V.int (i : Int), .ref l]) nT
      refine ⟨T2, _, rfl, SqT.of upd_same, rfl, _, _, rfl, _, _, rfl, rfl, ?_⟩
      have s12 := s1.trans s2
      generalize upd H1 T2 (.tup [V.int (i : Int), .ref l]) = H3 at s2 s12 ⊢
      have ol : ∀ m, m ≤ ps.length → (othD ps i m).length ≤ 4 * m := by
        intro m
        induction m with
        | zero => exact fun _ => Nat.le_refl _
        | succ m ih =>
          intro hm
          have := ih (by omega)
          have hmp : m < ps.length := by omega
          have d4 := (ft.2.2 _ (List.getElem_mem hmp)).1
          rw [othD_succ, List.length_append]
          split
          · simp; omega
          · rw [show ps.getD m [] = ps[m] from by simp [List.getD, List.getElem?_eq_getElem hmp]]
            omega
      refine ⟨_, rfl, p, _, rfl, SqL.of (s12 _ _ p1), fun D nD => lc2_it walk_enum (fun m H4 => Same H3 H4 ∧ ∃ us : List Addr, H4 D = some (.lst (us.map V.ref)) ∧ Rows K H4 us ((othD ps i m).map Deed.row)) ⟨same_upd nD, [], upd_same, .nil⟩ (fun m H4 _ z => SqL.of (z.1 _ _ (s12 _ _ p1))) ?_ ?_⟩
      · rintro m y H4 H5 hm ⟨s4, us, eD, ru⟩ ⟨T3, ym, yr, rfl, nT3, rfl, f1, f2⟩
        rw [List.length_map] at hm
        have hmp : m < ps.length := by omega
        obtain ⟨lr, elr, tr, r1, r2⟩ := paired_get p2 (List.getElem?_eq_getElem hmp)
        have e5 : yr = V.ref lr := by
          have e6 : (ls.map V.ref)[m]? = some yr := f2
          rw [List.getElem?_map, elr] at e6
          exact (Option.some.inj e6).symm
        have e7 : ym = V.int (m : Int) := (Option.some.inj f1).symm
        subst e5 e7
        have s5 := same_upd (o := .tup [V.int (m : Int), .ref lr]) nT3
        have eD5 := s5 _ _ eD
        have ru5 : Rows K (upd H4 T3 (.tup [V.int (m : Int), .ref lr])) us ((othD ps i m).map Deed.row) := ru.mono fun t xs z => same_tup s5 z
        have s35 := s4.trans s5
        refine ⟨T3, _, rfl, SqT.of upd_same, rfl, _, _, rfl, _, _, rfl, rfl, rfl, ?_⟩
        generalize upd H4 T3 (.tup [V.int (m : Int), .ref lr]) = H6 at s5 eD5 ru5 s35 ⊢
        have osucc := othD_succ ps i m
        refine ⟨_, rfl, _, rfl, rfl, _, rfl, ite2 (fun q => ?_) (fun q => ?_)⟩
        · have q : ¬ m = i := fun z => by
            rw [z] at q
            simp at q
          rw [if_neg q] at osucc
          have r1' := (s12.trans s35) _ _ r1
          have rl := r2.len
          rw [List.length_map] at rl
          refine ⟨_, rfl, lr, rfl, ⟨_, SqL.of r1'⟩, lc2_it walk_list (fun j H7 => Same H3 H7 ∧ ∃ us2 : List Addr, H7 D = some (.lst (us2.map V.ref)) ∧ Rows K H7 us2 ((othD ps i m ++ (ps[m]).take j).map Deed.row)) ⟨s35, us, eD5, ?_⟩ (fun j H7 _ z => SqL.of (z.1 _ _ (s12 _ _ r1))) ?_ ?_⟩
          · rw [List.take_zero, List.append_nil]
            exact ru5
          · rintro j y H7 H8 hj ⟨s7, us2, e7, ru7⟩ ⟨rfl, ey⟩
            rw [List.length_map] at hj
            have hjd : j < ps[m].length := by omega
            obtain ⟨td, etd, sqd⟩ := paired_get (i := j) (b := (ps[m][j]).row) r2 (by rw [List.getElem?_map, List.getElem?_eq_getElem hjd]; rfl)
            have ey : y = V.ref td := by
              have ey : (tr.map V.ref)[j]? = some y := ey
              rw [List.getElem?_map, etd] at ey
              exact (Option.some.inj ey).symm
            subst ey
            have ul := ru7.len
            rw [List.length_map, List.length_append, List.length_take] at ul
            have o4 := ol m (by omega)
            have d4 := (ft.2.2 _ (List.getElem_mem hmp)).1
            refine ⟨rfl, tyes ⟨_, rfl, _, e7, by rw [List.length_map, sizeLine_eq]; omega, sameN s7 nD, us2 ++ [td], by rw [upd_same, List.map_append]; rfl, ?_⟩⟩
            rw [List.take_add_one, List.getElem?_eq_getElem hjd, ← List.append_assoc, List.map_append]
            exact Rows.append (ru7.mono fun t xs z => sqt_upd e7 z) (.cons (sqt_upd e7 (same_tup (s12.trans s7) sqd)) .nil)
          · rintro H7 ⟨s7, us2, e7, ru7⟩
            rw [List.length_map, List.take_of_length_le (by omega)] at ru7
            refine ⟨s7, us2, e7, ?_⟩
            rw [osucc, show ps.getD m [] = ps[m] from by simp [List.getD, List.getElem?_eq_getElem hmp]]
            exact ru7
        · have q : m = i := Classical.byContradiction fun z => q (by simp; omega)
          rw [if_pos q, List.append_nil] at osucc
          exact ⟨s35, us, eD5, by rw [osucc]; exact ru5⟩
      · rintro H4 ⟨s4, us, eD, ru⟩
        rw [List.length_map, ll] at ru
        have s14 := s12.trans s4
        have d14 := s14 _ _ d1
        have d24 : Rows K H4 ts (ps[i].map Deed.row) := d2.mono fun t xs z => same_tup s14 z
        have dpD : ∀ {HX : Hp} {q : Addr} {tt : List Addr} {ds : List Deed}, HX q = some (.lst (tt.map V.ref)) → Rows K HX tt (ds.map Deed.row) → Dp K HX (.ref q) (deedsD ds) := fun {HX q tt ds} e1 e2 => by
          have := e2.dp
          rw [List.map_map] at this
          exact .lst (SqL.of e1) this
        have goOn : mayAt ps i = false → ∀ k, k < i + 1 → mayAt ps k = false := fun z k hk => by
          by_cases q : k = i
          · rw [q]; exact z
          · exact pst k (by omega)
        have gi : ps.getD i [] = ps[i] := by simp [List.getD, List.getElem?_eq_getElem hip]
        have ma : mayAt ps i = (popB ps[i] && (popB (othD ps i ps.length) && (othD ps i ps.length).any fun d => !isPop d.row)) := by
          unfold mayAt
          rw [gi]
        refine ⟨_, rfl, .tuple [.str sPop], _, .tup (TP.at_ _) (.cons (.str _) .nil), dpD d14 d24, pop_lay, (Plain.deeds 0 _).shaped (by decide), _, rfl, ?_⟩
        rw [any_pop]
        cases hq1 : popB ps[i] with
        | false => exact iteF ⟨s14, ⟨_, _, _, rfl⟩, goOn (by rw [ma, hq1]; rfl)⟩
        | true =>
          refine iteT ⟨_, rfl, .tuple [.str sPop], _, .tup (TP.at_ _) (.cons (.str _) .nil), dpD eD ru, pop_lay, (Plain.deeds 0 _).shaped (by decide), _, rfl, ?_⟩
          rw [any_pop]
          cases hq2 : popB (othD ps i ps.length) with
          | false => exact iteF ⟨s14, ⟨_, _, _, rfl⟩, goOn (by rw [ma, hq1, hq2]; rfl)⟩
          | true =>
            refine iteT ?_
            have ul := ru.len
            rw [List.length_map] at ul
            have o4 := ol ps.length (Nat.le_refl _)
            refine ⟨_, rfl, D, rfl, ⟨_, SqL.of eD⟩, fun E nE => ?_⟩
            refine lc_list (K := K) (a := D) (xs := us.map V.ref) (fun j H5 => Same H4 H5 ∧ H5 E = some (.lst ((((othD ps i ps.length).map fun d => !isPop d.row).take j).map V.bl))) ⟨same_upd nE, upd_same⟩ (fun j H5 _ z => SqL.of (z.1 _ _ eD)) ?_ ?_
            · rintro j y H5 hy ⟨s5, eE⟩
              have hj := (List.getElem?_eq_some_iff.mp hy).1
              rw [List.length_map] at hj
              have hjo : j < (othD ps i ps.length).length := by omega
              obtain ⟨td, etd, sqd⟩ := paired_get (i := j) (b := ((othD ps i ps.length)[j]).row) ru (by rw [List.getElem?_map, List.getElem?_eq_getElem hjo]; rfl)
              have ey : y = V.ref td := by
                rw [List.getElem?_map, etd] at hy
                exact (Option.some.inj hy).symm
              subst ey
              refine ⟨rfl, tyes ⟨_, rfl, _, .tuple [.str sPop], row_dp (same_tup s5 sqd), .tup (TP.at_ _) (.cons (.str _) .nil), deed_lay _, pop_lay, _, eE, by rw [List.length_map, List.length_take, List.length_map, sizeLine_eq]; omega, sameN s5 nE, ?_⟩⟩
              rw [upd_same, eqv_pop, List.take_add_one, List.getElem?_map, List.getElem?_eq_getElem hjo, List.map_append]
              rfl
            · rintro H5 ⟨s5, eE⟩
              rw [List.length_map, List.take_of_length_le (by rw [List.length_map]; omega)] at eE
              refine ⟨E, _, rfl, SqL.of eE, _, rfl, ?_⟩
              have ea : (((othD ps i ps.length).map fun d => !isPop d.row).any id) = (othD ps i ps.length).any fun d => !isPop d.row := by
                rw [List.any_map]
                rfl
              rw [ea]
              cases hq3 : (othD ps i ps.length).any fun d => !isPop d.row with
              | false => exact iteF ⟨s14.trans s5, ⟨_, _, _, rfl⟩, goOn (by rw [ma, hq1, hq2, hq3]; rfl)⟩
              | true => exact iteT (fin true H5 (s14.trans s5) ⟨fun _ => mayAt_iff.mp ⟨i, hip, by rw [ma, hq1, hq2, hq3]; rfl⟩, fun _ => rfl⟩)
    · rintro σ H1 ⟨s1, ⟨u, v, x, rfl⟩, pst⟩
      refine fin false H1 s1 ⟨fun z => (by cases z), fun z => ?_⟩
      obtain ⟨i, hi, h⟩ := mayAt_iff.mpr z
      rw [pst i (by rw [List.length_map]; omega)] at h
      cases h
def spStaleFull (K : PySem.W.Frag) : Sp := fun vs H Q _ => ∃ (a p rl : Addr) (xs : List Int) (ps : List (List Deed)) (r : Rule), vs = [.ref a, .ref p, .ref rl] ∧ Given K H a p rl xs ps r ∧
  (safeB r ps = false → MayB ps → GoodS r (plainPs ps) (S0of xs.length ps) 253) ∧
  (∀ H', Same H H' → (safeB r ps = true ∨ ¬ MayB ps ∨ ∀ T w i, RchP r (plainPs ps) (S0of xs.length ps) T w → i < (plainPs ps).length → badP r (plainPs ps) T i = false) → Q .non H') ∧
  ∀ D H' T u i, Same H H' → H D = none → RchP r (plainPs ps) (S0of xs.length ps) T u → i < (plainPs ps).length → badP r (plainPs ps) T i = true → u.length < 253 → (∀ w O k, RchP r (plainPs ps) (S0of xs.length ps) O w → k < (plainPs ps).length → badP r (plainPs ps) O k = true → rk (u ++ [i]) ≤ rk (w ++ [k])) → H' D = some (.lst (vN (u ++ [i]))) → Q (.ref D) H'
theorem cal_stale_full {pp : Addr} (S : TxSt K mg) (TK : TxK K mg) (SE : TxSe K mg) (TS : TxS K mg) (TT : TxT K mg) (TC : TxC mg) (Dw : DefAt K mg "without_value" s_without_value) (TP : TxPop K mg pp) : C8.Cal P w K mg base 8 "stale" (spStaleFull K) [] := by
  obtain ⟨f, fd, F, g⟩ := S.stale.ex
  have T := S
  have c_check_all : C8.Cal P w K mg base 6 "check_all" (spChkA K) [] := cal_check_all TK
  have c_first_stale : C8.Cal P w K mg base 7 "first_stale" (spFirstFull K) [] := cal_first_full S SE TS TT TC Dw TP (cal_may S TP)
  refine cal_of F g (F.bindsN fun _ _ _ _ _ _ us hl => match us, hl with | [_, _, _], _ => rfl) (fok F scStale (fun vs H Q E h => ?_) (fun cdv A outer s0 H vs Q E hr h => ?_))
  · obtain ⟨a, p, rl, xs, ps, r, rfl, _⟩ := h
    rfl
  · obtain ⟨a, p, rl, xs, ps, r, rfl, G, good, fin0, fin1⟩ := h
    refine ⟨_, (pss_cons
    (ps_expr (C8.pe_c c_check_all hr (by decide) (by rfl) (pa_cons (pv 0) (pa_cons (pv 1) (pa_cons (pv 2) pa_nil))))) (pss_one
    (ps_ret (C8.pe_c c_first_stale hr (by decide) (by rfl) (pa_cons (pe_callB call_len_seq (by rfl) T.len PySem.boot_len (pa_cons (pv 0) pa_nil)) (pa_cons (pv 1) (pa_cons (pv 2) pa_nil))))))), ?_⟩
    refine ⟨_, rfl, _, rfl, _, rfl, a, p, rl, xs, ps, r, rfl, G.vals, G.fv, G.pg, G.ft, G.ru, G.rf, fun H1 s1 => ?_⟩
    have n3 := G.ft.2.1
    have fv := G.fv.1
    exact ⟨_, rfl, a, _, rfl, .inl (s1.seq G.vals), _, rfl, _, rfl, xs.length, p, rl, ps, r, by rw [List.length_map]; rfl, by omega, G.pg.same s1, G.ft, G.ru.same s1, fit_pos G.rf, good, fun H2 s2 h => fin0 H2 (s1.trans s2) h, fun D H2 T u i s2 nD h1 h2 h3 h4 h5 h6 => fin1 D H2 T u i (s1.trans s2) (none_back s1 nD) h1 h2 h3 h4 h5 h6⟩
end
end Sk


/-! What stale tells, by weavings of the programs that are handed in. -/
namespace Sk
open PySem PySem.Spec PyProof.Rows L2
/-- whether a weaving comes to a stale exchange -/
abbrev staleAt (r : Rule) (xs : List Int) (ps : List (List Deed)) (w : List Nat) : Bool := (play r (Mach.begun xs ps) w).2.stale
/-- the shortest, of several the least -/
structure StaleW (r : Rule) (xs : List Int) (ps : List (List Deed)) (u : List Nat) (i : Nat) : Prop where
  low : ∀ j ∈ u ++ [i], j < ps.length
  ahead : staleAt r xs ps u = false
  last : staleAt r xs ps (u ++ [i]) = true
  rank : ∀ v k, (∀ j ∈ v ++ [k], j < ps.length) → staleAt r xs ps v = false → staleAt r xs ps (v ++ [k]) = true → rk (u ++ [i]) ≤ rk (v ++ [k])
  short : u.length < 253
section
variable {r : Rule} {xs : List Int} {ps : List (List Deed)} {u : List Nat} {i : Nat}
theorem StaleW.least (S : StaleW r xs ps u i) (h3 : ps.length ≤ 3) {w : List Nat} (hw : ∀ j ∈ w, j < ps.length) (h : staleAt r xs ps w = true) : u.length + 1 ≤ w.length := by
  obtain ⟨a, k, b, e, e1, e2⟩ := first_bad (s := Mach.begun xs ps) rfl h
  subst e
  have e3 : staleAt r xs ps (a ++ [k]) = true := by
    unfold staleAt
    rw [play_append]
    exact e2
  have lw : ∀ j ∈ a ++ [k], j < ps.length := fun j hj => hw j (by
    rcases List.mem_append.mp hj with z | z
    · exact List.mem_append_left _ z
    · rw [List.mem_singleton.mp z]; exact List.mem_append_right _ List.mem_cons_self)
  have := rk_len (fun d hd => by have := S.low d hd; omega) (fun d hd => by have := lw d hd; omega) (S.rank a k lw e1 e3)
  rw [List.length_append, List.length_append] at this
  rw [List.length_append, List.length_cons]
  simp only [List.length_singleton] at this
  omega
theorem StaleW.exch (S : StaleW r xs ps u i) : ∃ f, (turn r (play r (Mach.begun xs ps) u).2 i).1 = .exchanges f := by
  have e := S.last
  unfold staleAt at e
  rw [play_append] at e
  exact stale_ex S.ahead e
/-- no step of it rests -/
theorem StaleW.norest (S : StaleW r xs ps u i) (h3 : ps.length ≤ 3) {a b : List Nat} {j : Nat} (e : u = a ++ j :: b) : (turn r (play r (Mach.begun xs ps) a).2 j).1 ≠ .rests := by
  intro z
  have es : (turn r (play r (Mach.begun xs ps) a).2 j).2 = (play r (Mach.begun xs ps) a).2 := by
    cases hi : (play r (Mach.begun xs ps) a).2.hands[j]? with
    | none => rw [turn_none hi]
    | some h =>
      rw [turn_some hi] at z ⊢
      have G := go_kind r (play r (Mach.begun xs ps) a).2 j h
      generalize go r (play r (Mach.begun xs ps) a).2 j h = o at *
      obtain ⟨st, s'⟩ := o
      simp only at z G ⊢
      subst z
      cases G with
      | rests e => rfl
  have e2 : staleAt r xs ps (a ++ b ++ [i]) = true := by
    have e1 := S.last
    rw [e] at e1
    unfold staleAt at e1 ⊢
    rw [List.append_assoc, play_append] at e1 ⊢
    have : play r (play r (Mach.begun xs ps) a).2 (j :: b ++ [i]) = ((turn r (play r (Mach.begun xs ps) a).2 j).1 :: (play r (turn r (play r (Mach.begun xs ps) a).2 j).2 (b ++ [i])).1, (play r (turn r (play r (Mach.begun xs ps) a).2 j).2 (b ++ [i])).2) := rfl
    rw [this, es] at e1
    exact e1
  have := S.least h3 (w := a ++ b ++ [i]) (fun k hk => S.low k (by
    rw [e]
    rcases List.mem_append.mp hk with q | q
    · refine List.mem_append_left _ ?_
      rcases List.mem_append.mp q with y | y
      · exact List.mem_append_left _ y
      · exact List.mem_append_right _ (List.mem_cons_of_mem _ y)
    · exact List.mem_append_right _ q)) e2
  rw [e] at this
  simp only [List.length_append, List.length_cons, List.length_nil] at this
  omega
theorem plain_stale (w : List Nat) : staleAt r (List.replicate xs.length 0) (plainPs ps) w = staleAt r xs ps w := by
  have e := congrArg (fun o => o.2.stale) (play_begun (r := r) (fun _ => 0) xs ps w)
  have ez : xs.map (fun _ => (0 : Int)) = List.replicate xs.length 0 := List.eq_replicate_iff.mpr ⟨by rw [List.length_map], fun v hv => by obtain ⟨_, _, q⟩ := List.mem_map.mp hv; exact q.symm⟩
  rw [ez] at e
  exact e
theorem plain_len : (plainPs ps).length = ps.length := List.length_map ..
theorem plain_fit (ft : Fit ps) : (∀ ds ∈ plainPs ps, ds.length ≤ 4) ∧ ∀ ds ∈ plainPs ps, ∀ v, Deed.push v ∈ ds → v = 0 := by
  constructor
  · intro ds hd
    obtain ⟨es, h1, h2⟩ := List.mem_map.mp hd
    rw [← h2, List.length_map]
    exact (ft.2.2 es h1).1
  · intro ds hd v hv
    obtain ⟨es, h1, h2⟩ := List.mem_map.mp hd
    rw [← h2] at hv
    obtain ⟨d, h3, h4⟩ := List.mem_map.mp hv
    cases d with
    | pop => cases h4
    | push x =>
      have h4 : Deed.push 0 = Deed.push v := h4
      injection h4 with h4
      exact h4.symm
/-- nothing is stale where stale tells None -/
theorem none_stale (ft : Fit ps) (rf : r.fit ps.length) (h : safeB r ps = true ∨ ¬ MayB ps ∨ ∀ T w i, RchP r (plainPs ps) (S0of xs.length ps) T w → i < (plainPs ps).length → badP r (plainPs ps) T i = false) : ∀ w, (∀ j ∈ w, j < ps.length) → staleAt r xs ps w = false := by
  intro w hw
  rcases h with h | h | h
  · refine never_stale ?_ xs w
    cases r with
    | keeps => exact trivial
    | counts m => exact (show total ps < m from of_decide_eq_true h)
    | marks hs => exact (marks_all rf.1 rf.2).1 (of_decide_eq_true h)
  · obtain ⟨P, T⟩ := Tame.begun xs ps
    exact never_may h T
  · refine Bool.eq_false_iff.mpr fun z => ?_
    rw [← plain_stale] at z
    obtain ⟨a, k, b, e, e1, e2⟩ := first_bad (s := Mach.begun (List.replicate xs.length 0) (plainPs ps)) rfl z
    subst e
    have h3 : (plainPs ps).length ≤ 3 := by rw [plain_len]; exact ft.2.1
    have hk : k < (plainPs ps).length := by rw [plain_len]; exact hw k (List.mem_append_right _ List.mem_cons_self)
    have hr := play_rch (r := r) (zs := List.replicate xs.length 0) h3 a.length a rfl (fun j hj => by rw [plain_len]; exact hw j (List.mem_append_left _ hj)) e1
    have hb := h _ a k hr hk
    obtain ⟨_, n2⟩ := nx_at0 (r := r) (zs := List.replicate xs.length 0) h3 a hk
    rw [at0_snoc] at n2
    rw [show (at0 r (List.replicate xs.length 0) (plainPs ps) a).stale = false from e1, hb] at n2
    rw [show (turn r (at0 r (List.replicate xs.length 0) (plainPs ps) a) k).2.stale = true from e2] at n2
    cases n2
/-- what is told is the least -/
theorem some_stale (ft : Fit ps) {T : PSt} (h1 : RchP r (plainPs ps) (S0of xs.length ps) T u) (h2 : i < (plainPs ps).length) (h3 : badP r (plainPs ps) T i = true) (h4 : u.length < 253)
    (h5 : ∀ w O k, RchP r (plainPs ps) (S0of xs.length ps) O w → k < (plainPs ps).length → badP r (plainPs ps) O k = true → rk (u ++ [i]) ≤ rk (w ++ [k])) : StaleW r xs ps u i := by
  have l3 : (plainPs ps).length ≤ 3 := by rw [plain_len]; exact ft.2.1
  obtain ⟨e1, e2, e3⟩ := rch_play l3 h1
  obtain ⟨_, n2⟩ := nx_at0 (r := r) (zs := List.replicate xs.length 0) l3 u h2
  rw [← e1, h3, Bool.or_true] at n2
  refine ⟨fun j hj => ?_, ?_, ?_, fun v k lv s1 s2 => ?_, h4⟩
  · rw [← plain_len]
    rcases List.mem_append.mp hj with z | z
    · exact e3 j z
    · rw [List.mem_singleton.mp z]; exact h2
  · rw [← plain_stale]; exact e2
  · rw [← plain_stale]; exact n2
  · rw [← plain_stale] at s1 s2
    have hk : k < (plainPs ps).length := by rw [plain_len]; exact lv k (List.mem_append_right _ List.mem_cons_self)
    have hr := play_rch (r := r) (zs := List.replicate xs.length 0) l3 v.length v rfl (fun j hj => by rw [plain_len]; exact lv j (List.mem_append_left _ hj)) s1
    refine h5 v _ k hr hk ?_
    obtain ⟨_, m2⟩ := nx_at0 (r := r) (zs := List.replicate xs.length 0) l3 v hk
    rw [show (at0 r (List.replicate xs.length 0) (plainPs ps) (v ++ [k])).stale = true from s2, show (at0 r (List.replicate xs.length 0) (plainPs ps) v).stale = false from s1, Bool.false_or] at m2
    exact m2.symm
/-- a case that was gone through may be searched -/
theorem good_ok {D : Nat} {b : List (List Bool)} (ft : Fit ps) (fv : FitV xs) (rf : r.fit ps.length) (hs : safeB r ps = false) (tD : total ps ≤ D) (pre : preB (bits ps) b = true) (ok : okCase D xs.length b = true) : GoodS r (plainPs ps) (S0of xs.length ps) 253 := by
  have h3 : (plainPs ps).length ≤ 3 := by rw [plain_len]; exact ft.2.1
  obtain ⟨h4, hp⟩ := plain_fit ft
  have hr : RuleD D (plainPs ps).length r := by
    cases r with
    | keeps => cases hs
    | counts m =>
      have : ¬ total ps < m := of_decide_eq_false hs
      exact ⟨rf.1, by omega⟩
    | marks ms =>
      obtain ⟨j, h1, h2⟩ := (marks_all rf.1 rf.2).2 (of_decide_eq_false hs)
      exact ⟨j, by rw [plain_len]; exact h1, h2⟩
  refine goods_of h3 h4 (by rw [List.length_replicate]; have := fv.1; omega) fun l nd hl => ?_
  rw [sizeLine_eq]
  exact few_ok h3 hp (preB_ok pre) ok hr l nd fun T hT => by
    obtain ⟨w, y⟩ := hl T hT
    obtain ⟨e1, e2, _⟩ := rch_play h3 y
    exact ⟨w, e2, e1⟩
/-- what stale promises, said by weavings -/
def spStaleW (K : PySem.W.Frag) : Sp := fun vs H Q _ => ∃ (a p rl : Addr) (xs : List Int) (ps : List (List Deed)) (r : Rule), vs = [.ref a, .ref p, .ref rl] ∧ Given K H a p rl xs ps r ∧
  (safeB r ps = false → MayB ps → GoodS r (plainPs ps) (S0of xs.length ps) 253) ∧
  (∀ H', Same H H' → (∀ w, (∀ j ∈ w, j < ps.length) → staleAt r xs ps w = false) → Q .non H') ∧
  ∀ D H' u i, Same H H' → H D = none → StaleW r xs ps u i → H' D = some (.lst (vN (u ++ [i]))) → Q (.ref D) H'
theorem staleW_to {K : PySem.W.Frag} {vs : List V} {H : Hp} {Q : VK} {E : XK} (h : spStaleW K vs H Q E) : spStaleFull K vs H Q E := by
  obtain ⟨a, p, rl, xs, ps, r, ev, G, good, f0, f1⟩ := h
  exact ⟨a, p, rl, xs, ps, r, ev, G, good, fun H' s h => f0 H' s (none_stale G.ft G.rf h), fun D H' T u i s nD h1 h2 h3 h4 h5 h6 => f1 D H' u i s nD (some_stale G.ft h1 h2 h3 h4 h5) h6⟩
theorem cal_weak {P : Program} {w : World} {K : PySem.W.Frag} {mg : Str → Option Value} {base : Heap} {k : Nat} {x : Str} {sp sq : Sp} {dvs : List V} (imp : ∀ vs H Q E, sq vs H Q E → sp vs H Q E) (c : C8.Cal P w K mg base k x sp dvs) : C8.Cal P w K mg base k x sq dvs := by
  obtain ⟨f, fd, ps, ds, F, a, b, d, e⟩ := c.ex
  exact ⟨f, fd, ps, ds, ⟨fun vs H Q E h => F.len vs H Q E (imp _ _ _ _ h), fun A outer s H args us vs Q E r1 r2 r3 r4 h => F.run A outer s H args us vs Q E r1 r2 r3 r4 (imp _ _ _ _ h)⟩, a, b, d, e⟩
end
end Sk


namespace Sk
open PySem PySem.Spec PyProof.Rows L2
section
variable {P : Program} {w : World} {K : PySem.W.Frag} {mg : Str → Option Value} {base : Heap} {Cm : Addr}
theorem scPlayed : FnScope ["values", "programs", "rule", "weaving", "machine", "hand"] ["values", "programs", "rule", "weaving"] (defScope s_played) := ⟨rfl, rfl, rfl, by decide +kernel, rfl, by decide +kernel, by decide +kernel⟩
theorem cal_played (T : TxM K mg Cm) (D : DefAt K mg "played" s_played) : C8.Cal P w K mg base 9 "played" (spPlayed K) [] := by
  obtain ⟨f, fd, F, g⟩ := D.ex
  have m_turn : C8.Met P w K mg base 6 Cm "turn" (spTurnM K Cm) [] := met_turn T
  have k_Machine : C8.Mak P w K mg base 7 "Machine" Cm (spInitM K Cm) [] := mak_Machine T
  refine cal_of F g (F.bindsN fun _ _ _ _ _ _ us hl => match us, hl with | [_, _, _, _], _ => rfl) (fok F scPlayed (fun vs H Q E h => ?_) (fun cdv A outer s0 H vs Q E hr h => ?_))
  · obtain ⟨a, p, rl, wv, xs, ps, r, ws, rfl, _⟩ := h
    rfl
  · obtain ⟨a, p, rl, wv, xs, ps, r, ws, rfl, G, hw, wb, wl, fin⟩ := h
    refine ⟨_, (pss_cons
    (ps_set (i := 4) scPlayed.nd rfl (.inr rfl) (C8.pe_mk k_Machine hr (by decide) (by rfl) (pa_cons (pv 0) (pa_cons (pv 1) (pa_cons (pv 2) pa_nil))))) (pss_one
    (ps_ret (pe_lc (own := [("hand", 5)]) (g := gName 5) (tt := tYes) rfl scPlayed.nd (pi_list (pv 3)) (blkOk_by (N := (["values", "programs", "rule", "weaving", "machine", "hand"])) (sc := defScope s_played) (by decide +kernel)) (fun _ _ _ _ _ => pg_name (i := 5) scPlayed.nd rfl (Or.inl rfl)) (fun _ _ _ _ _ => pts_nil) (fun _ _ _ _ _ => (show PE _ _ (tMeth Cm "turn" (spTurnM K Cm) [] C8.E0 (tVar 4) (tCons (tVar 5) tNil)) from C8.pe_mt m_turn hr (by decide) (pv 4) (pa_cons (pv 5) pa_nil))))))), ?_⟩
    refine ⟨_, rfl, _, rfl, _, rfl, fun x dx nx nd ne => ⟨x, dx, a, p, rl, H, xs, ps, r, rfl, rfl, nx, nd, ne, G.vals, G.fv, G.pg, G.ft, G.ru, G.rf, fun L H1 em M s1 bo => ⟨rfl, ?_⟩⟩⟩
    subst em
    have nb := G.ft.1
    have nb3 := G.ft.2.1
    refine ⟨_, rfl, wv, rfl, ⟨_, s1.seq hw⟩, fun D nD => ?_⟩
    have sD := same_upd (o := .lst ([] : List V)) nD
    have nDo := not_own M nD
    refine lc_list (K := K) (a := wv) (xs := vN ws) (fun k H2 => Same H H2 ∧ MacAt K H2 Cm r L (play r (Mach.begun xs ps) (ws.take k)).2 ∧ ToldAt H2 D (play r (Mach.begun xs ps) (ws.take k)).1) ⟨s1.trans sD, M.same sD, [], upd_same, .nil⟩ (fun k H2 _ z => z.1.seq hw) ?_ ?_
    · rintro k y H2 hy ⟨s2, M2, ts, eD, pt⟩
      have hk : k < ws.length := by
        have := (List.getElem?_eq_some_iff.mp hy).1
        rw [List.length_map] at this
        exact this
      have ek : ws[k]? = some ws[k] := List.getElem?_eq_getElem hk
      have ey : y = V.int (ws[k] : Nat) := by
        unfold vN at hy
        rw [List.getElem?_map, ek] at hy
        exact (Option.some.inj hy).symm
      subst ey
      have wk := wb _ (List.getElem_mem hk)
      obtain ⟨h, hh⟩ := hand_at (r := r) (s := Mach.begun xs ps) (w := ws.take k) (i := ws[k]) (by show ws[k] < (ps.map Hand.new).length; rw [List.length_map]; exact wk)
      have O := (Okm.begun xs ps nb3).play (w := ws.take k) (r := r)
      have fv1 := G.fv.1
      have lk : (ws.take k).length ≤ k := by rw [List.length_take]; omega
      obtain ⟨a2, e2, _⟩ := M2.ins
      have tl := paired_len pt
      rw [play_len] at tl
      refine ⟨rfl, tyes ⟨_, rfl, L.m, L.dx, _, rfl, e2, f_none (by decide +kernel), _, rfl, L, r, _, _, ws[k], h, rfl, M2, hh, O, by omega, fit_pos G.rf, fun t H3 M3 k3 et => ?_⟩⟩
      have eD3 := k3 D _ (fun z => nDo (List.mem_cons_of_mem _ z)) eD
      have k23 := M2.kp k3
      refine ⟨_, eD3, by rw [List.length_map, tl, sizeLine_eq]; omega, sameN (kept_same bo s2 k3) (s1.free nD), ?_, ts ++ [t], ?_, ?_⟩
      · rw [play_take ek]
        exact M3.other nDo eD3 rfl
      · rw [upd_same, List.map_append]
        rfl
      · rw [play_take ek]
        have kD : Kp H3 (upd H3 D (.lst (ts.map V.ref ++ [V.ref t]))) := .upd eD3 rfl
        exact Paired.app (Paired.mono2 (fun _ _ z => kD _ _ (k23 _ _ z rfl) rfl) pt) (.cons (kD _ _ et rfl) .nil)
    · rintro H2 ⟨s2, M2, tl⟩
      rw [List.take_of_length_le (by rw [List.length_map]; exact Nat.le_refl _)] at tl
      exact fin D H2 s2 (s1.free nD) tl
end
end Sk


/-! What stale tells, either way, in one; steps of a weaving are data. -/
namespace Sk
open PySem PySem.Spec PyProof.Rows L2
/-- what stale tells, either way -/
def OneAt (r : Rule) (xs : List Int) (ps : List (List Deed)) (H H' : Hp) (v : V) : Prop := (v = .non ∧ ∀ w, (∀ j ∈ w, j < ps.length) → staleAt r xs ps w = false) ∨ ∃ (D : Addr) (u : List Nat) (i : Nat), v = .ref D ∧ H D = none ∧ H' D = some (.lst (vN (u ++ [i]))) ∧ StaleW r xs ps u i
def spStale1 (K : PySem.W.Frag) : Sp := fun vs H Q _ => ∃ (a p rl : Addr) (xs : List Int) (ps : List (List Deed)) (r : Rule), vs = [.ref a, .ref p, .ref rl] ∧ Given K H a p rl xs ps r ∧
  (safeB r ps = false → MayB ps → GoodS r (plainPs ps) (S0of xs.length ps) 253) ∧ ∀ v H', Same H H' → OneAt r xs ps H H' v → Q v H'
theorem stale1_to {K : PySem.W.Frag} {vs : List V} {H : Hp} {Q : VK} {E : XK} (h : spStale1 K vs H Q E) : spStaleFull K vs H Q E := by
  obtain ⟨a, p, rl, xs, ps, r, ev, G, good, fin⟩ := h
  exact staleW_to ⟨a, p, rl, xs, ps, r, ev, G, good, fun H' s h => fin _ H' s (.inl ⟨rfl, h⟩), fun D H' u i s nD S e => fin _ H' s (.inr ⟨D, u, i, rfl, nD, e, S⟩)⟩
theorem play_ok {r : Rule} {xs : List Int} {ps : List (List Deed)} (nb3 : ps.length ≤ 3) {u : List Nat} (hu : ∀ i ∈ u, i < ps.length) : ∀ st ∈ (play r (Mach.begun xs ps) u).1, st.Ok := by
  have goes : ∀ (k : Nat), ∀ st ∈ (play r (Mach.begun xs ps) (u.take k)).1, st.Ok := by
    intro k
    induction k with
    | zero => intro st z; cases z
    | succ k ih =>
      by_cases hk : k < u.length
      · rw [play_take (List.getElem?_eq_getElem hk)]
        intro st hst
        rcases List.mem_append.mp hst with hst | hst
        · exact ih st hst
        · rw [List.mem_singleton.mp hst]
          obtain ⟨h, hh⟩ := hand_at (r := r) (s := Mach.begun xs ps) (w := u.take k) (i := u[k]) (by rw [show (Mach.begun xs ps).hands.length = ps.length from List.length_map ..]; exact hu _ (List.getElem_mem hk))
          rw [turn_some hh]
          exact (Go.out ((Okm.begun xs ps nb3).play (w := u.take k) (r := r)) hh (go_kind r _ _ h)).ok
      · rw [List.take_of_length_le (by omega)]
        rw [List.take_of_length_le (by omega)] at ih
        exact ih
  have := goes u.length
  rw [List.take_of_length_le (Nat.le_refl _)] at this
  exact this
end Sk


/-! A case with a machine that stands. -/
namespace Sk
open PySem PySem.Spec PyProof.Rows L2
structure CaseM (K : PySem.W.Frag) (Cm : Addr) (H : Hp) (va pa rl W : Addr) (L : ML) (xs : List Int) (ps : List (List Deed)) (r : Rule) (ws : List Nat) (s : Mach) : Prop where
  va : H va = some (.lst (xs.map V.int))
  fv : FitV xs
  x3 : xs.length ≤ 3
  pg : Progs K H pa ps
  ft : Fit ps
  p2 : ps.length = 2
  hb : bits ps ∈ fewAll
  ru : RuleAt H rl r
  rf : r.fit ps.length
  we : H W = some (.lst (vN ws))
  wb : ∀ i ∈ ws, i < ps.length
  wl : ws.length ≤ 100
  M : MacAt K H Cm r L s
  ok : ∃ n, Okm r n s ∧ n ≤ 200
  h2 : s.hands.length = 2
theorem CaseM.same {K : PySem.W.Frag} {Cm va pa rl W : Addr} {H H' : Hp} {L : ML} {xs : List Int} {ps : List (List Deed)} {r : Rule} {ws : List Nat} {s : Mach} (C : CaseM K Cm H va pa rl W L xs ps r ws s) (q : Same H H') : CaseM K Cm H' va pa rl W L xs ps r ws s :=
  ⟨q _ _ C.va, C.fv, C.x3, C.pg.same q, C.ft, C.p2, C.hb, C.ru.same q, C.rf, q _ _ C.we, C.wb, C.wl, C.M.same q, C.ok, C.h2⟩
theorem CaseM.given {K : PySem.W.Frag} {Cm va pa rl W : Addr} {H : Hp} {L : ML} {xs : List Int} {ps : List (List Deed)} {r : Rule} {ws : List Nat} {s : Mach} (C : CaseM K Cm H va pa rl W L xs ps r ws s) : Given K H va pa rl xs ps r := ⟨SqL.of C.va, C.fv, C.pg, C.ft, C.ru, C.rf⟩
theorem mac_but {K : PySem.W.Frag} {Cm p : Addr} {H H' : Hp} {L : ML} {r : Rule} {s : Mach} {l : List V} (M : MacAt K H Cm r L s) (n : p ∉ L.An :: L.own) (e : H p = some (.lst l)) (b : But p H H') : MacAt K H' Cm r L s :=
  M.frame (kp_but b e) fun x hx o q => b x o (fun z => n (by rw [← z]; exact hx)) q
theorem CaseM.drew {K : PySem.W.Frag} {Cm p a va pa rl W : Addr} {ns : List Int} {H H' : Hp} {L : ML} {xs : List Int} {ps : List (List Deed)} {r : Rule} {ws : List Nat} {s : Mach} (C : CaseM K Cm H va pa rl W L xs ps r ws s) (d : Dice K H p a ns) (n1 : va ≠ p) (n2 : W ≠ p) (n3 : p ∉ L.An :: L.own) (b : But p H H') : CaseM K Cm H' va pa rl W L xs ps r ws s :=
  ⟨b _ _ n1 C.va, C.fv, C.x3, C.pg.drew d b, C.ft, C.p2, C.hb, C.ru.but b d.some.choose_spec, C.rf, b _ _ n2 C.we, C.wb, C.wl, mac_but C.M n3 d.some.choose_spec b, C.ok, C.h2⟩
def spCase11 (K : PySem.W.Frag) (Cm : Addr) : Sp := fun vs H Q _ => ∃ (p a : Addr) (ns : List Int), vs = [.ref p] ∧ Dice K H p a ns ∧
  ∀ (t va pa rl W : Addr) (L : ML) (xs : List Int) (ps : List (List Deed)) (r : Rule) (ws : List Nat) (s : Mach) (H' : Hp), Drew K p a ns H H' → H' t = some (.tup [.ref va, .ref pa, .ref rl, .ref W, .ref L.m]) → CaseM K Cm H' va pa rl W L xs ps r ws s → va ≠ p → W ≠ p → p ∉ L.An :: L.own → Q (.ref t) H'
section
variable {P : Program} {w : World} {K : PySem.W.Frag} {mg : Str → Option Value} {base : Heap} {Cm : Addr}
theorem scCase11 : FnScope ["_law_d", "_law_values_here", "_law_programs_here", "_law_rule_here", "_law_weaving_here", "_law_machine", "_law_hand"] ["_law_d"] (defScope s_law_case) := ⟨rfl, rfl, rfl, by decide +kernel, rfl, by decide +kernel, by decide +kernel⟩
theorem cal_case11 (TF : TxF K mg) (TM : TxM K mg Cm) (D : DefAt K mg "_law_case" s_law_case) : C8.Cal P w K mg base 9 "_law_case" (spCase11 K Cm) [] := by
  obtain ⟨f, fd, F, g⟩ := D.ex
  have T := TF.B
  have c__law_next : C8.Cal P w K mg base 1 "_law_next" (spNext K) [] := cal_nextF TF
  have c__law_values : C8.Cal P w K mg base 2 "_law_values" (spValues K) [] := cal_valuesF TF
  have c__law_few : C8.Cal P w K mg base 3 "_law_few" (spFew K) [] := cal_few TF
  have c__law_rule : C8.Cal P w K mg base 2 "_law_rule" (spRule K) [] := cal_ruleF TF
  have c__law_weaving : C8.Cal P w K mg base 2 "_law_weaving" (spWeav K) [] := cal_weavingF TF
  have m_turn : C8.Met P w K mg base 6 Cm "turn" (spTurnM K Cm) [] := met_turn TM
  have k_Machine : C8.Mak P w K mg base 7 "Machine" Cm (spInitM K Cm) [] := mak_Machine TM
  refine cal_of F g (F.bindsN fun _ _ _ _ _ _ us hl => match us, hl with | [_], _ => rfl) (fok F scCase11 (fun vs H Q E h => ?_) (fun cdv A outer s0 H vs Q E hr h => ?_))
  · obtain ⟨p, a, ns, rfl, _⟩ := h
    rfl
  · obtain ⟨p, a, ns, rfl, d1, fin⟩ := h
    refine ⟨_, (pss_cons
    (ps_set (i := 1) scCase11.nd rfl (.inl rfl) (C8.pe_c c__law_values hr (by decide) (by rfl) (pa_cons (pv 0) (pa_cons pe_int pa_nil)))) (pss_cons
    (ps_set (i := 2) scCase11.nd rfl (.inl rfl) (C8.pe_c c__law_few hr (by decide) (by rfl) (pa_cons (pv 0) pa_nil))) (pss_cons
    (ps_set (i := 3) scCase11.nd rfl (.inl rfl) (C8.pe_c c__law_rule hr (by decide) (by rfl) (pa_cons (pv 0) (pa_cons pe_int pa_nil)))) (pss_cons
    (ps_set (i := 4) scCase11.nd rfl (.inl rfl) (C8.pe_c c__law_weaving hr (by decide) (by rfl) (pa_cons (pv 0) (pa_cons pe_int (pa_cons pe_int pa_nil))))) (pss_cons
    (ps_set (i := 5) scCase11.nd rfl (.inl rfl) (C8.pe_mk k_Machine hr (by decide) (by rfl) (pa_cons (pv 1) (pa_cons (pv 2) (pa_cons (pv 3) pa_nil))))) (pss_cons
    (ps_for PassesOwn.never rfl (pi_list (pe_slice sl_list (pv 4) po_none (po_some (C8.pe_c c__law_next hr (by decide) (by rfl) (pa_cons (pv 0) (pa_cons pe_int pa_nil)))))) (pg_name (i := 6) scCase11.nd rfl (.inl rfl)) (pss_one (ps_expr (show PE _ _ (tMeth Cm "turn" (spTurnM K Cm) [] C8.E0 (tVar 5) (tCons (tVar 6) tNil)) from C8.pe_mt m_turn hr (by decide) (pv 5) (pa_cons (pv 6) pa_nil))))) (pss_one
    (ps_ret (pe_tup (pa_cons (pv 1) (pa_cons (pv 2) (pa_cons (pv 3) (pa_cons (pv 4) (pa_cons (pv 5) pa_nil)))))))))))))), ?_⟩
    refine ⟨_, rfl, p, a, ns, 3, rfl, d1, by decide, by decide, fun va xs H2 w2 nva eva xl xb => ?_⟩
    refine ⟨_, rfl, p, a, ns, rfl, w2.d, fun pa ps H3 w3 npa pg ft p2 hb => ?_⟩
    refine ⟨_, rfl, p, a, ns, 2, rfl, w3.d, by decide, fun rl r H4 w4 nrl ru rf => ?_⟩
    refine ⟨_, rfl, p, a, ns, 2, 12, rfl, w4.d, by decide, by decide, by decide, by decide, fun W ws H5 w5 nW eW wb wl => ?_⟩
    have vp : va ≠ p := (ne_of_none d1.some.choose_spec nva).symm
    have Wp : W ≠ p := (ne_of_none w4.d.some.choose_spec nW).symm
    have eva5 := w5.b _ _ vp (w4.b _ _ vp (w3.b _ _ vp eva))
    have pg5 := (pg.drew w3.d w4.b).drew w4.d w5.b
    have ru5 := ru.but w5.b w4.d.some.choose_spec
    have fv : FitV xs := ⟨by omega, xb⟩
    have x3 : xs.length ≤ 3 := by omega
    have rf : r.fit ps.length := by rw [p2]; exact rf
    have wbn : ∀ i ∈ ws, i < ps.length := fun i hi => by have := wb i hi; omega
    have wln : ws.length ≤ 60 := by omega
    have w15 := ((w2.trans w3).trans w4).trans w5
    clear w2 w3 w4 eva pg ru wb wl
    refine ⟨_, rfl, _, rfl, _, rfl, fun x dx nx nd ne => ⟨x, dx, va, pa, rl, H5, xs, ps, r, rfl, rfl, nx, nd, ne, SqL.of eva5, fv, pg5, ft, ru5, rf, fun L H6 em M6 s6 bo => ⟨rfl, ?_⟩⟩⟩
    subst em
    have w16 := w15.same s6
    obtain ⟨lp6, elp6⟩ := w16.d.some
    have pn : p ∉ L.An :: L.own := fun z => by
      obtain ⟨lp, elp⟩ := w15.d.some
      rw [bo p z] at elp
      cases elp
    refine ⟨_, rfl, _, rfl, p, a, ns, 12, rfl, w16.d, by decide, by decide, fun k H7 k0 k1 w7 => ?_⟩
    have w17 := w16.trans w7
    have M7 := mac_but M6 pn elp6 w7.b
    have eW7 := w7.b _ _ Wp (s6 _ _ eW)
    refine ⟨k, rfl, W, _, rfl, SqL.of eW7, fun W2 nW2 => ?_⟩
    obtain ⟨kk, rfl⟩ : ∃ kk : Nat, k = (kk : Int) := ⟨k.toNat, by omega⟩
    have ec : cutV (vN ws) none (some (kk : Int)) = vN (ws.take kk) := by
      unfold cutV
      rw [HT.sIx_none, HT.sIx_nat, List.drop_zero, Nat.sub_zero]
      unfold vN
      rw [← List.map_take, List.length_map]
      congr 1
      rw [List.take_eq_take_iff]
      omega
    rw [ec]
    have s8 := same_upd (o := .lst (vN (ws.take kk))) nW2
    have eW2 : upd H7 W2 (.lst (vN (ws.take kk))) W2 = some (.lst (vN (ws.take kk))) := upd_same
    have M8 := M7.same s8
    have W2o : W2 ∉ L.own := fun z => not_own M7 nW2 (List.mem_cons_of_mem _ z)
    have w18 := w17.same s8
    have w58 : Drew K p a ns H5 (upd H7 W2 (.lst (vN (ws.take kk)))) := (((Drew.refl w15.d).same s6).trans w7).same s8
    generalize upd H7 W2 (.lst (vN (ws.take kk))) = H8 at eW2 M8 w18 w58 ⊢
    have nb3 := ft.2.1
    refine ⟨W2, rfl, ⟨_, SqL.of eW2⟩, for_list (K := K) (a := W2) (xs := vN (ws.take kk)) (fun i σ H9 => (∃ v : Option V, σ = [some (.ref p), some (.ref va), some (.ref pa), some (.ref rl), some (.ref W), some (.ref L.m), v]) ∧ Kept2 L H8 H9 ∧ MacAt K H9 Cm r L (play r (Mach.begun xs ps) ((ws.take kk).take i)).2) ⟨⟨none, rfl⟩, .refl, M8⟩ (fun i σ H9 _ z => SqL.of (z.2.1 _ _ W2o eW2)) ?_ ?_⟩
    · rintro i y σ H9 hy ⟨⟨v, rfl⟩, k9, M9⟩
      have hk : i < (ws.take kk).length := by
        have := (List.getElem?_eq_some_iff.mp hy).1
        rw [List.length_map] at this
        exact this
      have ek : (ws.take kk)[i]? = some (ws.take kk)[i] := List.getElem?_eq_getElem hk
      have ey : y = V.int ((ws.take kk)[i] : Nat) := by
        unfold vN at hy
        rw [List.getElem?_map, ek] at hy
        exact (Option.some.inj hy).symm
      subst ey
      have wk := wbn _ (List.mem_of_mem_take (List.getElem_mem hk))
      obtain ⟨h, hh⟩ := hand_at (r := r) (s := Mach.begun xs ps) (w := (ws.take kk).take i) (i := (ws.take kk)[i]) (by rw [show (Mach.begun xs ps).hands.length = ps.length from List.length_map ..]; exact wk)
      have O := (Okm.begun xs ps nb3).play (w := (ws.take kk).take i) (r := r)
      have lk : ((ws.take kk).take i).length ≤ 60 := by rw [List.length_take, List.length_take]; omega
      obtain ⟨a2, e2, _⟩ := M9.ins
      refine ⟨_, rfl, L.m, L.dx, _, rfl, e2, f_none (by decide +kernel), _, rfl, L, r, _, _, (ws.take kk)[i], h, rfl, M9, hh, O, by omega, fit_pos rf, fun t H10 M10 k10 et => ⟨⟨_, rfl⟩, k9.trans k10, ?_⟩⟩
      rw [play_take ek]
      exact M10
    · rintro σ H9 ⟨⟨v, rfl⟩, k9, M9⟩
      rw [List.take_of_length_le (by rw [List.length_map]; exact Nat.le_refl _)] at M9
      have w59 := w58.kept w15.d bo k9
      have O := (Okm.begun xs ps nb3).play (w := ws.take kk) (r := r)
      have lk : (ws.take kk).length ≤ 60 := by rw [List.length_take]; omega
      refine ⟨_, rfl, _, rfl, _, rfl, _, rfl, _, rfl, by show 5 ≤ sizeLine; decide, fun t nt => ?_⟩
      have sT := same_upd (o := .tup [V.ref va, .ref pa, .ref rl, .ref W, .ref L.m]) nt
      have b59 := w59.b
      exact fin t va pa rl W L xs ps r ws _ _ ((w15.trans w59).same sT) upd_same ((⟨b59 _ _ vp eva5, fv, x3, pg5.drew w15.d b59, ft, p2, hb, ru5.but b59 w15.d.some.choose_spec, rf, b59 _ _ Wp eW, wbn, by omega, M9, ⟨_, O, by omega⟩, by rw [play_many]; exact (List.length_map ..).trans p2⟩ : CaseM K Cm H9 va pa rl W L xs ps r ws _).same sT) vp Wp pn
end
end Sk


namespace Sk
open PySem PySem.Spec PyProof.Rows L2
/-- what whole tells: all in lists of its own, new over F -/
structure WholeAt (F H : Hp) (t : Addr) (s : Mach) : Prop where
  ex : ∃ (a o v : Addr) (qs ts : List Addr), H t = some (.tup [.ref a, .ref o, .ref v, .bl s.stale]) ∧ H a = some (.lst (qs.map V.ref)) ∧ Paired (fun q l => H q = some (.lst l)) qs (s.hands.map Hand.said) ∧ H o = some (.lst (ts.map V.ref)) ∧ Paired (PairAt H) ts s.ends ∧
    H v = some (.lst (s.worth.map V.int)) ∧ (a :: o :: v :: qs).Nodup ∧ ∀ y ∈ a :: o :: v :: qs, F y = none
def spWhole (K : PySem.W.Frag) : Sp := fun vs H Q _ => ∃ (a p rl wv : Addr) (xs : List Int) (ps : List (List Deed)) (r : Rule) (ws : List Nat), vs = [.ref a, .ref p, .ref rl, .ref wv] ∧ Given K H a p rl xs ps r ∧ SqL K H wv (vN ws) ∧ (∀ i ∈ ws, i < ps.length) ∧ ws.length ≤ 1000 ∧
  ∀ t H', Same H H' → WholeAt H H' t (wholeM r (Mach.begun xs ps) ws) → Q (.ref t) H'
section
variable {P : Program} {w : World} {K : PySem.W.Frag} {mg : Str → Option Value} {base : Heap} {Cm : Addr}
theorem scWhole : FnScope ["values", "programs", "rule", "weaving", "machine", "hands", "hand", "answers"] ["values", "programs", "rule", "weaving"] (defScope s_whole) := ⟨rfl, rfl, rfl, by decide +kernel, rfl, by decide +kernel, by decide +kernel⟩
theorem cal_whole (T : TxM K mg Cm) (D : DefAt K mg "whole" s_whole) : C8.Cal P w K mg base 9 "whole" (spWhole K) [] := by
  obtain ⟨f, fd, F, g⟩ := D.ex
  have m_turn : C8.Met P w K mg base 6 Cm "turn" (spTurnM K Cm) [] := met_turn T
  have m_is_done : C8.Met P w K mg base 1 Cm "is_done" (spIsDone K Cm) [] := met_is_done T
  have m_answers : C8.Met P w K mg base 2 Cm "answers" (spAnswers K Cm) [] := met_answers T
  have m_order : C8.Met P w K mg base 1 Cm "order" (spOrder K Cm) [] := met_order T
  have m_pile_values : C8.Met P w K mg base 2 Cm "pile_values" (spPileV K Cm) [] := met_pile_values T
  have m_is_stale : C8.Met P w K mg base 1 Cm "is_stale" (spIsStale K Cm) [] := met_is_stale T
  have k_Machine : C8.Mak P w K mg base 7 "Machine" Cm (spInitM K Cm) [] := mak_Machine T
  refine cal_of F g (F.bindsN fun _ _ _ _ _ _ us hl => match us, hl with | [_, _, _, _], _ => rfl) (fok F scWhole (fun vs H Q E h => ?_) (fun cdv A outer s0 H vs Q E hr h => ?_))
  · obtain ⟨a, p, rl, wv, xs, ps, r, ws, rfl, _⟩ := h
    rfl
  · obtain ⟨a, p, rl, wv, xs, ps, r, ws, rfl, G, hw, wb, wl, fin⟩ := h
    refine ⟨_, (pss_cons
    (ps_set (i := 4) scWhole.nd rfl (.inr rfl) (C8.pe_mk k_Machine hr (by decide) (by rfl) (pa_cons (pv 0) (pa_cons (pv 1) (pa_cons (pv 2) pa_nil))))) (pss_cons
    (ps_set (i := 5) scWhole.nd rfl (.inl rfl) (pe_listRg rfl (by rfl) T.list (prg_1 (by rfl) T.range (pe_callB call_len_seq (by rfl) T.len PySem.boot_len (pa_cons (pv 1) pa_nil))))) (pss_cons
    (ps_for PassesOwn.never rfl (pi_list (pv 3)) (pg_name (i := 6) scWhole.nd rfl (.inl rfl)) (pss_one (ps_expr (C8.pe_mt m_turn hr (by decide) (pv 4) (pa_cons (pv 6) pa_nil))))) (pss_cons
    (ps_while PassesOwn.never (pt_not (pt_val (C8.pe_mt0 m_is_done hr (by decide) (pv 4)))) (pss_one (ps_for PassesOwn.never rfl (pi_list (pv 5)) (pg_name (i := 6) scWhole.nd rfl (.inl rfl)) (pss_one (ps_expr (C8.pe_mt m_turn hr (by decide) (pv 4) (pa_cons (pv 6) pa_nil))))))) (pss_cons
    (ps_setLc (i := 7) (own := [("hand", 6)]) (g := gName 6) (tt := tYes) rfl scWhole.nd rfl rfl (sw_true rfl rfl rfl (by decide +kernel)) (pi_list (pv 5)) (blkOk_by (N := (["values", "programs", "rule", "weaving", "machine", "hands", "hand", "answers"])) (sc := defScope s_whole) (by decide +kernel)) (fun _ _ _ _ _ => pg_name (i := 6) scWhole.nd rfl (Or.inl rfl)) (fun _ _ _ _ _ => pts_nil) (fun _ _ _ _ _ => (show PE _ _ (tMeth Cm "answers" (spAnswers K Cm) [] C8.E0 (tVar 4) (tCons (tVar 6) tNil)) from C8.pe_mt m_answers hr (by decide) (pv 4) (pa_cons (pv 6) pa_nil)))) (pss_one
    (ps_ret (pe_tup (pa_cons (pv 7) (pa_cons (C8.pe_mt0 m_order hr (by decide) (pv 4)) (pa_cons (C8.pe_mt0 m_pile_values hr (by decide) (pv 4)) (pa_cons (C8.pe_mt0 m_is_stale hr (by decide) (pv 4)) pa_nil)))))))))))), ?_⟩
    refine ⟨_, rfl, _, rfl, _, rfl, fun x dx nx nd ne => ⟨x, dx, a, p, rl, H, xs, ps, r, rfl, rfl, nx, nd, ne, G.vals, G.fv, G.pg, G.ft, G.ru, G.rf, fun L H1 em M s1 bo => ⟨rfl, ?_⟩⟩⟩
    subst em
    have nb := G.ft.1
    have nb3 := G.ft.2.1
    have fv1 := G.fv.1
    obtain ⟨ls, p1, p2⟩ := G.pg.same s1
    have ll := paired_len p2
    have hN : (Mach.begun xs ps).hands.length = ps.length := List.length_map ..
    refine ⟨_, rfl, p, _, rfl, .inl (SqL.of p1), _, rfl, RgOk.of_le (by decide) (by rw [List.length_map]; omega) (by decide) (by omega), fun hd nhd => ?_⟩
    have el : rgV 0 (((ls.map V.ref).length : Nat) : Int) = vN (List.range ps.length) := by
      unfold rgV vN
      rw [List.length_map, ll, Int.sub_zero, Int.toNat_natCast]
      exact List.map_congr_left fun i _ => by rw [Int.zero_add]
    rw [el]
    have sh := same_upd (o := .lst (vN (List.range ps.length))) nhd
    have nho := not_own M nhd
    have nho2 : hd ∉ L.own := fun z => nho (List.mem_cons_of_mem _ z)
    have eh : (upd H1 hd (.lst (vN (List.range ps.length)))) hd = some (.lst (vN (List.range ps.length))) := upd_same
    have M1 := M.same sh
    have s2 := s1.trans sh
    generalize upd H1 hd (.lst (vN (List.range ps.length))) = H2 at eh M1 s2 ⊢
    refine ⟨_, rfl, wv, rfl, ⟨_, s2.seq hw⟩, for_list (K := K) (a := wv) (xs := vN ws) (fun k σ H3 => (∃ v : Option V, σ = [some (.ref a), some (.ref p), some (.ref rl), some (.ref wv), some (.ref L.m), some (.ref hd), v, none]) ∧ Same H H3 ∧ MacAt K H3 Cm r L (play r (Mach.begun xs ps) (ws.take k)).2 ∧ H3 hd = some (.lst (vN (List.range ps.length))))
      ⟨⟨none, rfl⟩, s2, M1, eh⟩ (fun k σ H3 _ z => z.2.1.seq hw) ?_ ?_⟩
    · rintro k y σ H3 hy ⟨⟨v, rfl⟩, s3, M3, eh3⟩
      have hk : k < ws.length := by
        have := (List.getElem?_eq_some_iff.mp hy).1
        rw [List.length_map] at this
        exact this
      have ek : ws[k]? = some ws[k] := List.getElem?_eq_getElem hk
      have ey : y = V.int (ws[k] : Nat) := by
        unfold vN at hy
        rw [List.getElem?_map, ek] at hy
        exact (Option.some.inj hy).symm
      subst ey
      have wk := wb _ (List.getElem_mem hk)
      obtain ⟨h, hh⟩ := hand_at (r := r) (s := Mach.begun xs ps) (w := ws.take k) (i := ws[k]) (by rw [hN]; exact wk)
      have O := (Okm.begun xs ps nb3).play (w := ws.take k) (r := r)
      have lk : (ws.take k).length ≤ k := by rw [List.length_take]; omega
      obtain ⟨a2, e2, _⟩ := M3.ins
      refine ⟨_, rfl, L.m, L.dx, _, rfl, e2, f_none (by decide +kernel), _, rfl, L, r, _, _, ws[k], h, rfl, M3, hh, O, by omega, fit_pos G.rf, fun t H4 M4 k4 et => ?_⟩
      refine ⟨⟨_, rfl⟩, kept_same bo s3 k4, ?_, k4 _ _ nho2 eh3⟩
      rw [play_take ek]
      exact M4
    · rintro σ H3 ⟨⟨v, rfl⟩, s3, M3, eh3⟩
      rw [List.take_of_length_le (by rw [List.length_map]; exact Nat.le_refl _)] at M3
      have O0 := (Okm.begun xs ps nb3).play (w := ws) (r := r)
      have td0 : (play r (Mach.begun xs ps) ws).2.toDo r ≤ 252 := Nat.le_trans (play_le (Base.begun xs ps)) (todo_begun xs ps nb3 fun ds hd => (G.ft.2.2 ds hd).1)
      refine ⟨fun m σ H4 => ∃ (s' : Mach) (n : Nat) (v : Option V), σ = [some (.ref a), some (.ref p), some (.ref rl), some (.ref wv), some (.ref L.m), some (.ref hd), v, none] ∧ Same H H4 ∧ MacAt K H4 Cm r L s' ∧ H4 hd = some (.lst (vN (List.range ps.length))) ∧ Okm r n s' ∧ n + 3 * s'.toDo r ≤ 5000 ∧ m = s'.toDo r ∧
          rounds r (s'.toDo r) s' = wholeM r (Mach.begun xs ps) ws ∧ s'.hands.length = ps.length,
        ⟨_, _, _, v, rfl, s3, M3, eh3, O0, by omega, rfl, rfl, by rw [play_many]; exact hN⟩, ?_⟩
      rintro m σ H4 ⟨s', n, v, rfl, s4, M4, eh4, O4, le4, rfl, rn, hl4⟩
      obtain ⟨a4, e4, _⟩ := M4.ins
      refine ⟨_, rfl, L.m, L.dx, _, rfl, e4, f_none (by decide +kernel), L, r, s', rfl, M4, fun H5 s5 => ⟨_, rfl, ?_⟩⟩
      have M5 := M4.same s5
      have s45 := s4.trans s5
      have eh5 := s5 _ _ eh4
      cases dn : s'.done with
      | false =>
        refine iteT ⟨fun σ' H6 => ∃ v : Option V, σ' = [some (.ref a), some (.ref p), some (.ref rl), some (.ref wv), some (.ref L.m), some (.ref hd), v, none] ∧ Same H H6 ∧ MacAt K H6 Cm r L (s'.round r) ∧ H6 hd = some (.lst (vN (List.range ps.length))), ?_, ?_⟩
        · rintro σ' H6 ⟨v6, rfl, s6, M6, eh6⟩
          have lt := round_lt (r := r) O4.base dn
          have O6 := O4.play (w := List.range s'.hands.length)
          rw [List.length_range, hl4] at O6
          have O6' : Okm r (n + ps.length) (s'.round r) := by
            unfold Mach.round
            rw [hl4]
            exact O6
          refine ⟨_, lt, s'.round r, n + ps.length, v6, rfl, s6, M6, eh6, O6', by omega, rfl, ?_, by unfold Mach.round; rw [play_many]; exact hl4⟩
          rw [← rn]
          exact (rounds_step O4.base dn (Nat.le_refl _)).symm
        · refine ⟨_, rfl, hd, rfl, ⟨_, SqL.of eh5⟩, for_list (K := K) (a := hd) (xs := vN (List.range ps.length)) (fun k σ H6 => (∃ v : Option V, σ = [some (.ref a), some (.ref p), some (.ref rl), some (.ref wv), some (.ref L.m), some (.ref hd), v, none]) ∧ Same H H6 ∧ MacAt K H6 Cm r L (play r s' ((List.range ps.length).take k)).2 ∧ H6 hd = some (.lst (vN (List.range ps.length))))
            ⟨⟨v, rfl⟩, s45, M5, eh5⟩ (fun k σ H6 _ z => SqL.of z.2.2.2) ?_ ?_⟩
          · rintro k y σ H6 hy ⟨⟨v6, rfl⟩, s6, M6, eh6⟩
            have hk : k < (List.range ps.length).length := by
              have := (List.getElem?_eq_some_iff.mp hy).1
              rw [List.length_map] at this
              exact this
            have hk2 : k < ps.length := by rw [List.length_range] at hk; exact hk
            have ek : (List.range ps.length)[k]? = some k := by rw [List.getElem?_range hk2]
            have ey : y = V.int (k : Nat) := by
              unfold vN at hy
              rw [List.getElem?_map, ek] at hy
              exact (Option.some.inj hy).symm
            subst ey
            obtain ⟨h, hh⟩ := hand_at (r := r) (s := s') (w := (List.range ps.length).take k) (i := k) (by rw [hl4]; exact hk2)
            have O := O4.play (w := (List.range ps.length).take k)
            have lk : ((List.range ps.length).take k).length ≤ k := by rw [List.length_take]; omega
            obtain ⟨a2, e2, _⟩ := M6.ins
            refine ⟨_, rfl, L.m, L.dx, _, rfl, e2, f_none (by decide +kernel), _, rfl, L, r, _, _, k, h, rfl, M6, hh, O, by omega, fit_pos G.rf, fun t H7 M7 k7 et => ?_⟩
            refine ⟨⟨_, rfl⟩, kept_same bo s6 k7, ?_, k7 _ _ nho2 eh6⟩
            rw [play_take ek]
            exact M7
          · rintro σ H6 ⟨⟨v6, rfl⟩, s6, M6, eh6⟩
            rw [List.take_of_length_le (by rw [List.length_map]; exact Nat.le_refl _)] at M6
            refine ⟨v6, rfl, s6, ?_, eh6⟩
            unfold Mach.round
            rw [hl4]
            exact M6
      | true =>
        refine iteF ?_
        rw [rounds_end dn] at rn
        rw [← rn] at fin
        refine ⟨_, rfl, hd, rfl, ⟨_, SqL.of eh5⟩, fun D nD => ?_⟩
        have sD := same_upd (o := .lst ([] : List V)) nD
        have M6 := M5.same sD
        refine lc_list (K := K) (a := hd) (xs := vN (List.range ps.length)) (fun i H6 => Same H5 H6 ∧ ∃ qs : List Addr, H6 D = some (.lst (qs.map V.ref)) ∧ Paired (fun q l => H6 q = some (.lst l)) qs ((s'.hands.map Hand.said).take i) ∧ (∀ q ∈ qs, q ≠ D ∧ H5 q = none) ∧ qs.Nodup) ⟨sD, [], upd_same, .nil, fun q z => (by cases z), .nil⟩ (fun i H6 _ z => SqL.of (z.1 _ _ eh5)) ?_ ?_
        · rintro k y H6 hy ⟨s6, qs, eD, pq, nqD, ndq⟩
          have hk : k < (List.range ps.length).length := by
            have := (List.getElem?_eq_some_iff.mp hy).1
            rw [List.length_map] at this
            exact this
          have hk2 : k < ps.length := by rw [List.length_range] at hk; exact hk
          have ek : (List.range ps.length)[k]? = some k := by rw [List.getElem?_range hk2]
          have ey : y = V.int (k : Nat) := by
            unfold vN at hy
            rw [List.getElem?_map, ek] at hy
            exact (Option.some.inj hy).symm
          subst ey
          have hk3 : k < s'.hands.length := by omega
          have ehk : s'.hands[k]? = some s'.hands[k] := List.getElem?_eq_getElem hk3
          have M7 := M5.same s6
          obtain ⟨a2, e2, _⟩ := M7.ins
          have ql := paired_len pq
          rw [List.length_take, List.length_map] at ql
          refine ⟨rfl, tyes ⟨_, rfl, L.m, L.dx, _, rfl, e2, f_none (by decide +kernel), _, rfl, L, r, s', k, s'.hands[k], rfl, M7, ehk, fun q H7 s7 nq eq => ⟨_, s7 _ _ eD, ?_, ?_, qs ++ [q], ?_, ?_, ?_, ?_⟩⟩⟩
          · rw [List.length_map, sizeLine_eq]
            omega
          · intro c o e
            rw [upd_ne (ne_of_none e nD)]
            exact s7 _ _ (s6 _ _ e)
          · rw [upd_same, List.map_append]
            rfl
          · have em : D ∉ qs := fun z => (nqD D z).1 rfl
            have qD : q ≠ D := (ne_of_none eD nq).symm
            rw [List.take_add_one, List.getElem?_map, ehk]
            exact Paired.app (paired_upd em (Paired.mono2 (fun _ _ z => s7 _ _ z) pq)) (.cons (by rw [upd_ne qD]; exact eq) .nil)
          · intro z hz
            rcases List.mem_append.mp hz with q1 | q1
            · exact nqD z q1
            · rw [List.mem_singleton.mp q1]
              exact ⟨(ne_of_none eD nq).symm, s6.free nq⟩
          · exact nd_refs q ndq (fun z hz => by obtain ⟨l, e⟩ := paired_mem pq hz; exact ⟨_, e⟩) nq
        · rintro H6 ⟨s6, qs, eD, pq, nqD, ndq⟩
          rw [List.take_of_length_le (by rw [List.length_map, List.length_map, List.length_range]; omega)] at pq
          have M7 := M5.same s6
          obtain ⟨a2, e2, _⟩ := M7.ins
          refine ⟨_, rfl, _, rfl, L.m, L.dx, _, rfl, e2, f_none (by decide +kernel), L, r, s', rfl, M7, fun Od H7 s7 n7 e7 => ?_⟩
          have M8 := M7.same s7
          obtain ⟨a3, e3, _⟩ := M8.ins
          refine ⟨_, rfl, L.m, L.dx, _, rfl, e3, f_none (by decide +kernel), L, r, n, s', rfl, M8, O4.bnd, by omega, fun Pv H8 s8 n8 e8 => ?_⟩
          have M9 := M8.same s8
          obtain ⟨a4, e4, _⟩ := M9.ins
          refine ⟨_, rfl, L.m, L.dx, _, rfl, e4, f_none (by decide +kernel), L, r, s', rfl, M9, by show 4 ≤ sizeLine; decide, fun t nt => fin t _ (((s45.trans s6).trans (s7.trans s8)).trans (same_upd nt)) ?_⟩
          have s9 := same_upd (o := .tup [V.ref D, .ref Od, .ref Pv, .bl s'.stale]) nt
          have s79 := (s7.trans s8).trans s9
          have s89 := s8.trans s9
          obtain ⟨ts, t1, t2⟩ := e7
          have aO : D ≠ Od := ne_of_none eD n7
          have aV : D ≠ Pv := ne_of_none (s7 _ _ eD) n8
          have oV : Od ≠ Pv := ne_of_none t1 n8
          have gO : H Od = none := (s45.trans s6).free n7
          have gV : H Pv = none := ((s45.trans s6).trans s7).free n8
          refine ⟨D, Od, Pv, qs, ts, upd_same, s79 _ _ eD, Paired.mono2 (fun _ _ z => s79 _ _ z) pq, s89 _ _ t1, Paired.mono2 (fun _ _ z => s89 _ _ z) t2, s9 _ _ e8, ?_, ?_⟩
          · simp only [List.nodup_cons, List.mem_cons, not_or]
            refine ⟨⟨aO, aV, fun z => (nqD D z).1 rfl⟩, ⟨oV, fun z => ?_⟩, fun z => ?_, ndq⟩
            · obtain ⟨l, e⟩ := paired_mem pq z
              rw [n7] at e
              cases e
            · obtain ⟨l, e⟩ := paired_mem pq z
              have e := s7 _ _ e
              rw [n8] at e
              cases e
          · intro y hy
            simp only [List.mem_cons] at hy
            rcases hy with z | z | z | z
            · rw [z]; exact s45.free nD
            · rw [z]; exact gO
            · rw [z]; exact gV
            · exact s45.free (nqD y z).2
end
end Sk


/-! Pieces of what is told: data, its lists new. -/
namespace Sk
open PySem PySem.Spec PyProof.Rows L2
structure Piece (K : PySem.W.Frag) (F H : Hp) (n : Nat) (v : V) (d : PyData) (as : List Addr) : Prop where
  dp : Dp K H v d
  ow : Own H n v as
  fr : Fresh F as
  ft : Fits n d
  pl : Plain n d
theorem ans_scl {v : V} (h : IsAns v) : Scl v := by
  rcases h with rfl | rfl | ⟨i, rfl⟩
  · exact .str _
  · exact .non
  · exact .int i
theorem vN_scl {ns : List Nat} : ∀ x ∈ vN ns, Scl x := fun x hx => by
  obtain ⟨n, _, e⟩ := List.mem_map.mp hx
  rw [← e]
  exact .int _
theorem ints_scl {ns : List Int} : ∀ x ∈ ns.map V.int, Scl x := fun x hx => by
  obtain ⟨n, _, e⟩ := List.mem_map.mp hx
  rw [← e]
  exact .int _
theorem Fits.natsN {n : Nat} {xs : List Nat} (l : xs.length ≤ 100000) : Fits (n + 2) (natsD xs) := .lst _ (by rw [List.length_map]; exact l) fun d hd => by
  obtain ⟨i, _, e⟩ := List.mem_map.mp hd
  exact e ▸ .int n i
theorem Fits.anssN {n : Nat} {l : List V} (len : l.length ≤ 100000) (ok : ∀ v ∈ l, IsAns v) : Fits (n + 2) (.list (l.map ansD)) := .lst _ (by rw [List.length_map]; exact len) fun d hd => by
  obtain ⟨v, hv, e⟩ := List.mem_map.mp hd
  rw [← e]
  exact .ans (ok v hv)
/-- numbers in a tuple -/
def natsT (ns : List Nat) : PyData := .tuple (ns.map fun n : Nat => PyData.int (n : Int))
theorem two_scl {x : Str} {v : V} (h : Scl v) : ∀ y ∈ [V.str x, v], Scl y := fun y hy => by
  have hy : y = .str x ∨ y = v := by simpa using hy
  rcases hy with rfl | rfl
  · exact .str _
  · exact h
theorem one_scl {x : Str} : ∀ y ∈ [V.str x], Scl y := fun y hy => by
  rw [List.mem_singleton.mp hy]
  exact .str _
theorem stp_scl {st : Stp} (ok : st.Ok) : ∀ x ∈ st.row, Scl x := by
  cases st with
  | ends a => exact two_scl (ans_scl ok)
  | rests => exact one_scl
  | misses => exact one_scl
  | looks b => exact two_scl (.bl b)
  | takes c => exact two_scl (.int _)
  | reads c => exact two_scl (.int _)
  | links c => exact two_scl (.int _)
  | marks c => exact two_scl (.int _)
  | follows c => exact two_scl (.int _)
  | exchanges c => exact two_scl (.int _)
theorem Fits.stpN {n : Nat} {st : Stp} (ok : st.Ok) : Fits (n + 2) st.dat := by
  have one : ∀ x : PyData, Fits (n + 1) x → ∀ y ∈ [PyData.str st.word, x], Fits (n + 1) y := fun x hx y hy => by
    have hy : y = .str st.word ∨ y = x := by simpa using hy
    rcases hy with rfl | rfl
    · exact .str n _
    · exact hx
  have non : ∀ y ∈ [PyData.str st.word], Fits (n + 1) y := fun y hy => by
    have hy : y = .str st.word := by simpa using hy
    subst hy
    exact .str n _
  unfold Stp.dat
  cases st with
  | ends a => exact .tup _ (by show 2 ≤ 100000; decide) (one _ (.ans ok))
  | rests => exact .tup _ (by show 1 ≤ 100000; decide) non
  | misses => exact .tup _ (by show 1 ≤ 100000; decide) non
  | looks b => exact .tup _ (by show 2 ≤ 100000; decide) (one _ (.bl n b))
  | takes c => exact .tup _ (by show 2 ≤ 100000; decide) (one _ (.int n _))
  | reads c => exact .tup _ (by show 2 ≤ 100000; decide) (one _ (.int n _))
  | links c => exact .tup _ (by show 2 ≤ 100000; decide) (one _ (.int n _))
  | marks c => exact .tup _ (by show 2 ≤ 100000; decide) (one _ (.int n _))
  | follows c => exact .tup _ (by show 2 ≤ 100000; decide) (one _ (.int n _))
  | exchanges c => exact .tup _ (by show 2 ≤ 100000; decide) (one _ (.int n _))
section
variable {K : PySem.W.Frag} {F H : Hp} {n : Nat} {D : Addr}
theorem Piece.non : Piece K F H (n + 1) .non .none [] := ⟨.non, .sc .non, .nil, .non n, .non _⟩
theorem Piece.bl (b : Bool) : Piece K F H (n + 1) (.bl b) (.bool b) [] := ⟨.bl b, .sc (.bl b), .nil, .bl n b, .bl _ b⟩
theorem Piece.int (i : Int) : Piece K F H (n + 1) (.int i) (.int i) [] := ⟨.int i, .sc (.int i), .nil, .int n i, .int _ i⟩
theorem Piece.nats {ns : List Nat} (no : F D = none) (e : H D = some (.lst (vN ns))) (l : ns.length ≤ 10000) : Piece K F H (n + 2) (.ref D) (natsD ns) [D] :=
  ⟨nats_dp (SqL.of e), .flat e (by rw [show (vN ns).length = ns.length from List.length_map ..]; exact l) vN_scl, .one no, .natsN (by omega), .nats _ _⟩
theorem Piece.ints {ns : List Int} (no : F D = none) (e : H D = some (.lst (ns.map V.int))) (l : ns.length ≤ 10000) : Piece K F H (n + 2) (.ref D) (intsD ns) [D] :=
  ⟨ints_dp (SqL.of e), .flat e (by rw [List.length_map]; exact l) ints_scl, .one no, .ints (by omega), .ints _ _⟩
theorem Piece.anss {l : List V} (no : F D = none) (e : H D = some (.lst l)) (len : l.length ≤ 10000) (ok : ∀ v ∈ l, IsAns v) : Piece K F H (n + 2) (.ref D) (.list (l.map ansD)) [D] :=
  ⟨dp_anss e ok, .flat e len fun x hx => ans_scl (ok x hx), .one no, .anssN (by omega) ok, .anss _ ok⟩
theorem Piece.natsT {ns : List Nat} (e : H D = some (.tup (vN ns))) (l : ns.length ≤ 10000) : Piece K F H (n + 2) (.ref D) (natsT ns) [] :=
  ⟨.tup (SqT.of e) (dpAll_nats ns), .flatT e vN_scl, .nil, .tup _ (by rw [List.length_map]; omega) fun d hd => by
      obtain ⟨i, _, e⟩ := List.mem_map.mp hd
      exact e ▸ .int n i, .tup fun d hd => by
      obtain ⟨i, _, e⟩ := List.mem_map.mp hd
      exact e ▸ .int _ i⟩
theorem pair_scl {p : Nat × Nat} : ∀ x ∈ [V.int (p.1 : Int), V.int (p.2 : Int)], Scl x := fun x hx => by
  have hx : x = .int (p.1 : Int) ∨ x = .int (p.2 : Int) := by simpa using hx
  rcases hx with rfl | rfl <;> exact .int _
theorem Piece.pair {p : Nat × Nat} (e : H D = some (.tup [.int (p.1 : Int), .int (p.2 : Int)])) : Piece K F H (n + 2) (.ref D) (pairD p) [] :=
  ⟨.tup (SqT.of e) (.cons (.int _) (.cons (.int _) .nil)), .flatT e pair_scl, .nil, .tup _ (by show 2 ≤ 100000; decide) fun x hx => by
      have hx : x = .int (p.1 : Int) ∨ x = .int (p.2 : Int) := by simpa using hx
      rcases hx with rfl | rfl <;> exact .int n _, .pair _ p⟩
theorem Piece.ends {es : List (Nat × Nat)} (no : F D = none) (e : EndsAt H D es) (l : es.length ≤ 10000) : Piece K F H (n + 3) (.ref D) (endsD es) [D] := by
  obtain ⟨ts, e1, pr⟩ := e
  have tl := paired_len pr
  refine ⟨ends_dp e1 pr, .inr (.inl ⟨D, _, [], rfl, e1, by rw [List.length_map]; omega, .none fun x hx => ?_, rfl⟩), .one no, .ends (by omega), .ends _ _⟩
  obtain ⟨t, ht, e⟩ := List.mem_map.mp hx
  obtain ⟨p, ep⟩ := paired_mem pr ht
  rw [← e]
  exact .flatT ep pair_scl
theorem Piece.told {sts : List Stp} (no : F D = none) (e : ToldAt H D sts) (l : sts.length ≤ 10000) (ok : ∀ st ∈ sts, st.Ok) : Piece K F H (n + 3) (.ref D) (toldD sts) [D] := by
  have dp := told_dp (K := K) e ok
  obtain ⟨ts, e1, pr⟩ := e
  have tl := paired_len pr
  refine ⟨dp, .inr (.inl ⟨D, _, [], rfl, e1, by rw [List.length_map]; omega, .none fun x hx => ?_, rfl⟩), .one no, .lst _ (by rw [List.length_map]; omega) fun d hd => ?_, .told _ ok⟩
  · obtain ⟨t, ht, e⟩ := List.mem_map.mp hx
    have go : ∀ {ts : List Addr} {sts : List Stp}, Paired (fun t st => H t = some (.tup (Stp.row st))) ts sts → (∀ st ∈ sts, st.Ok) → t ∈ ts → ∃ st, st.Ok ∧ H t = some (.tup (Stp.row st)) := by
      intro ts sts pr ok m
      induction pr with
      | nil => cases m
      | cons r rs ih =>
        rcases List.mem_cons.mp m with rfl | q
        · exact ⟨_, ok _ List.mem_cons_self, r⟩
        · exact ih (fun st h => ok st (List.mem_cons_of_mem _ h)) q
    obtain ⟨st, o1, o2⟩ := go pr ok ht
    rw [← e]
    exact .flatT o2 (stp_scl o1)
  · obtain ⟨st, hs, e⟩ := List.mem_map.mp hd
    rw [← e]
    exact .stpN (ok st hs)
/-- all that whole tells, as data -/
def wholeD (s : Mach) : PyData := .tuple [saidD (s.hands.map Hand.said), endsD s.ends, intsD s.worth, .bool s.stale]
theorem whole_dp {K : PySem.W.Frag} {F H H' : Hp} {t : Addr} {s : Mach} (h : WholeAt F H t s) (q : Same H H') (ok : ∀ h ∈ s.hands, ∀ v ∈ h.said, IsAns v) : Dp K H' (.ref t) (wholeD s) := by
  obtain ⟨a, o, v, qs, ts, e1, e2, e3, e4, e5, e6, _⟩ := h.ex
  refine .tup (SqT.of (q _ _ e1)) (.cons (said_dp (q _ _ e2) (Paired.mono2 (fun _ _ z => q _ _ z) e3) fun l hl => ?_) (.cons (ends_dp (q _ _ e4) (Paired.mono2 (fun _ _ z => q _ _ z) e5)) (.cons (ints_dp (SqL.of (q _ _ e6))) (.cons (.bl _) .nil))))
  obtain ⟨h, hh, e⟩ := List.mem_map.mp hl
  rw [← e]
  exact ok h hh
theorem Plain.whole {s : Mach} (ok : ∀ h ∈ s.hands, ∀ v ∈ h.said, IsAns v) : Plain 4 (wholeD s) := .tup fun d hd => by
  have hd : d = saidD (s.hands.map Hand.said) ∨ d = endsD s.ends ∨ d = intsD s.worth ∨ d = .bool s.stale := by simpa using hd
  rcases hd with rfl | rfl | rfl | rfl
  · refine .said 1 fun l hl => ?_
    obtain ⟨h, hh, e⟩ := List.mem_map.mp hl
    rw [← e]
    exact ok h hh
  · exact .ends 1 _
  · exact .ints 2 _
  · exact .bl 3 _
theorem Plain.up {k m : Nat} {d : PyData} (h : Plain k d) (l : k ≤ m) : Plain m d := ⟨h.lay, Nat.le_trans h.dep l⟩
theorem Piece.whole {r : Rule} {m : Nat} {s : Mach} {t : Addr} (h : WholeAt F H t s) (O : Okm r m s) (l : m ≤ 10000) : ∃ as, Piece K F H 5 (.ref t) (wholeD s) as := by
  have dp := whole_dp (K := K) h (.refl _) O.ans
  obtain ⟨a, o, v, qs, ts, e1, e2, e3, e4, e5, e6, nd, no⟩ := h.ex
  have few := O.few
  have b3 := O.bnd.few
  have ql := paired_len e3
  rw [List.length_map] at ql
  have tl := paired_len e5
  have saids : ∀ x ∈ s.hands.map Hand.said, x.length ≤ m ∧ ∀ v ∈ x, IsAns v := fun x hx => by
    obtain ⟨g, hg, e⟩ := List.mem_map.mp hx
    rw [← e]
    exact ⟨b3.2.2.2 g hg, O.ans g hg⟩
  have wl : s.worth.length ≤ 10000 := by
    have := pile_len O.bnd
    unfold Mach.worth
    rw [List.length_map]
    omega
  refine ⟨(a :: qs) ++ ([o] ++ ([v] ++ ([] ++ []))), dp, .inr (.inr ⟨t, _, rfl, e1, .cons ?_ (.cons ?_ (.cons ?_ (.cons ?_ .nil)))⟩), ⟨?_, fun y hy => no y ?_⟩, ?_, (Plain.whole O.ans).up (by decide)⟩
  · refine .inr (.inl ⟨a, _, qs, rfl, e2, by rw [List.length_map]; omega, .ones fun q hq => ?_, rfl⟩)
    have go : ∀ {qs : List Addr} {sd : List (List V)}, Paired (fun q l => H q = some (.lst l)) qs sd → (∀ l ∈ sd, l.length ≤ m ∧ ∀ v ∈ l, IsAns v) → q ∈ qs → ∃ l, H q = some (.lst l) ∧ l.length ≤ m ∧ ∀ v ∈ l, IsAns v := by
      intro qs sd pr ok mm
      induction pr with
      | nil => cases mm
      | cons r rs ih =>
        rcases List.mem_cons.mp mm with rfl | q
        · exact ⟨_, r, ok _ List.mem_cons_self⟩
        · exact ih (fun st h => ok st (List.mem_cons_of_mem _ h)) q
    obtain ⟨l, l1, l2, l3⟩ := go e3 saids hq
    exact .flat l1 (by omega) fun x hx => ans_scl (l3 x hx)
  · refine .inr (.inl ⟨o, _, [], rfl, e4, by rw [List.length_map]; omega, .none fun x hx => ?_, rfl⟩)
    obtain ⟨t, ht, e⟩ := List.mem_map.mp hx
    obtain ⟨p, ep⟩ := paired_mem e5 ht
    rw [← e]
    exact .flatT ep pair_scl
  · exact .flat e6 (by rw [List.length_map]; exact wl) ints_scl
  · exact .sc (.bl _)
  · have e : ((a :: qs) ++ ([o] ++ ([v] ++ ([] ++ [])))).Perm (a :: o :: v :: qs) := by
      refine List.Perm.cons a ?_
      show (qs ++ [o, v]).Perm ([o, v] ++ qs)
      exact List.perm_append_comm
    exact e.nodup_iff.mpr nd
  · rcases List.mem_append.mp hy with z | z
    · rcases List.mem_cons.mp z with q | q
      · rw [q]; exact List.mem_cons_self
      · exact List.mem_cons_of_mem _ (List.mem_cons_of_mem _ (List.mem_cons_of_mem _ q))
    · have z : y = o ∨ y = v := by simpa using z
      rcases z with rfl | rfl
      · exact List.mem_cons_of_mem _ List.mem_cons_self
      · exact List.mem_cons_of_mem _ (List.mem_cons_of_mem _ List.mem_cons_self)
  · refine .tup _ (by show 4 ≤ 100000; decide) fun d hd => ?_
    have hd : d = saidD (s.hands.map Hand.said) ∨ d = endsD s.ends ∨ d = intsD s.worth ∨ d = .bool s.stale := by simpa using hd
    rcases hd with rfl | rfl | rfl | rfl
    · exact .said (n := 1) (by rw [List.length_map]; omega) (fun x hx => by have := (saids x hx).1; omega) fun l hl => (saids l hl).2
    · exact .ends (n := 1) (by omega)
    · exact .ints (n := 2) (by omega)
    · exact .bl 3 _
/-- what serial tells -/
def serD (xs : List Int) (ds : List Deed) : PyData := .tuple [.list ((acts xs ds).1.map ansD), intsD (acts xs ds).2]
theorem Piece.ser {t A B : Addr} {xs : List Int} {ds : List Deed} (nA : F A = none) (nB : F B = none) (ne : A ≠ B) (et : H t = some (.tup [.ref A, .ref B])) (eA : H A = some (.lst (acts xs ds).1)) (eB : H B = some (.lst ((acts xs ds).2.map V.int))) (l : xs.length + ds.length ≤ 1000) : Piece K F H 5 (.ref t) (serD xs ds) ([A] ++ ([B] ++ [])) := by
  have l1 := acts_len1 xs ds
  have l2 := acts_len2 xs ds
  have pA : Piece K F H 4 (.ref A) (.list ((acts xs ds).1.map ansD)) [A] := .anss nA eA (by omega) (acts_ans xs ds)
  have pB : Piece K F H 4 (.ref B) (intsD (acts xs ds).2) [B] := .ints nB eB (by omega)
  refine ⟨.tup (SqT.of et) (.cons pA.dp (.cons pB.dp .nil)), .inr (.inr ⟨t, _, rfl, et, .cons pA.ow (.cons pB.ow .nil)⟩), ⟨?_, fun y hy => ?_⟩, .tup _ (by show 2 ≤ 100000; decide) fun d hd => ?_, .tup fun d hd => ?_⟩
  · show [A, B].Nodup
    exact List.nodup_cons.mpr ⟨by simpa using ne, List.nodup_cons.mpr ⟨by simp, .nil⟩⟩
  · have hy : y = A ∨ y = B := by simpa using hy
    rcases hy with rfl | rfl
    · exact nA
    · exact nB
  · have hd : d = .list ((acts xs ds).1.map ansD) ∨ d = intsD (acts xs ds).2 := by simpa using hd
    rcases hd with rfl | rfl
    · exact pA.ft
    · exact pB.ft
  · have hd : d = .list ((acts xs ds).1.map ansD) ∨ d = intsD (acts xs ds).2 := by simpa using hd
    rcases hd with rfl | rfl
    · exact pA.pl
    · exact pB.pl
/-- many of them, over F, at H -/
structure Acc (K : PySem.W.Frag) (F H : Hp) (n : Nat) (vs : List V) (ds : List PyData) (as : List Addr) : Prop where
  s : Same F H
  dp : DpAll K H vs ds
  ow : OwnAll (Own H n) vs as
  fr : Fresh F as
  ft : ∀ d ∈ ds, Fits n d
  pl : ∀ d ∈ ds, Plain n d
theorem Acc.nil (s : Same F H) : Acc K F H n [] [] [] := ⟨s, .nil, .nil, .nil, (fun d z => by cases z), fun d z => by cases z⟩
theorem Acc.same {H' : Hp} {vs : List V} {ds : List PyData} {as : List Addr} (A : Acc K F H n vs ds as) (s : Same H H') : Acc K F H' n vs ds as := ⟨A.s.trans s, dpAll_same s A.dp, A.ow.mono fun _ _ _ o => o.same s, A.fr, A.ft, A.pl⟩
theorem Acc.add {H' : Hp} {vs : List V} {ds : List PyData} {as bs : List Addr} {v : V} {d : PyData} (A : Acc K F H n vs ds as) (s : Same H H') (p : Piece K H H' n v d bs) : Acc K F H' n (vs ++ [v]) (ds ++ [d]) (as ++ (bs ++ [])) := by
  have A2 := A.same s
  refine ⟨A2.s, dpAll_app A2.dp (.cons p.dp .nil), A2.ow.app (.cons p.ow .nil), ?_, fun x hx => ?_, fun x hx => ?_⟩
  · rw [List.append_nil]
    exact A.fr.app A.s (fun a ha => by obtain ⟨l, e⟩ := own_listsA A.ow a ha; exact ⟨_, e⟩) p.fr
  · rcases List.mem_append.mp hx with q | q
    · exact A.ft x q
    · rw [List.mem_singleton.mp q]; exact p.ft
  · rcases List.mem_append.mp hx with q | q
    · exact A.pl x q
    · rw [List.mem_singleton.mp q]; exact p.pl
/-- in a list -/
theorem Acc.done {H' : Hp} {D : Addr} {vs : List V} {ds : List PyData} {as : List Addr} (A : Acc K F H n vs ds as) (s : Same H H') (no : H D = none) (e : H' D = some (.lst vs)) (l : vs.length ≤ 10000) : Piece K F H' (n + 1) (.ref D) (.list ds) (D :: as) := by
  have A2 := A.same s
  have ll := DpAll.len A.dp
  refine ⟨.lst (SqL.of e) A2.dp, .inr (.inl ⟨D, vs, as, rfl, e, l, A2.ow, rfl⟩), ⟨List.nodup_cons.mpr ⟨fun z => ?_, A.fr.nd⟩, fun y hy => ?_⟩, .lst _ (by omega) A.ft, .lst A.pl⟩
  · obtain ⟨u, q⟩ := own_listsA A.ow D z
    rw [no] at q
    cases q
  · rcases List.mem_cons.mp hy with rfl | q
    · exact A.s.free no
    · exact A.fr.no y q
end
end Sk


namespace Sk
open PySem PySem.Spec PyProof.Rows L2
section
variable {P : Program} {w : World} {K : PySem.W.Frag} {mg : Str → Option Value} {base : Heap} {f : Addr} {fd : FuncData}
theorem scDo : FnScope ["pile", "deed"] ["pile", "deed"] (defScope sDo) := ⟨rfl, rfl, rfl, by decide +kernel, rfl, by decide +kernel, by decide +kernel⟩
theorem ok_do {pop : Addr} (F : FnP K "do_deed" "do_deed" sDo f fd) (TP : TxPop K mg pop) (mL : mg "len" = none) : FnOk P w K mg base CX0 1 f fd ["pile", "deed"] (spDo K) := by
  refine fok F scDo (fun vs H Q E h => ?_) (fun cdv A outer s H vs Q E hr h => ?_)
  · obtain ⟨p, t, pile, d, rfl, _⟩ := h
    rfl
  · obtain ⟨p, t, pile, d, rfl, hp, ht, hz, k⟩ := h
    refine ⟨_, pss_cons (ps_if (pt_cmpR (op_neD hr.units) (pv 1) (pe_glob (v := .ref pop) rfl TP.g rfl) (nomark _))
        (pss_cons (ps_expr (pe_bm PySem.F.plainAttrs_list PySem.F.slot_list_append PySem.F.type_list_append mt_append (pv 0) (pa_cons (pe_ix ix_tup (pv 1) pe_int (fun _ _ => rfl)) pa_nil))) (pss_one (ps_ret pe_str))) pss_nil)
      (pss_cons (ps_if (pt_cmpR op_eq (pe_callB call_len_seq (by rfl) mL PySem.boot_len (pa_cons (pv 0) pa_nil)) pe_int (nomark _)) (pss_one (ps_ret pe_non)) pss_nil)
      (pss_one (ps_ret (pe_bm0 PySem.F.plainAttrs_list PySem.F.slot_list_pop PySem.F.type_list_pop mt_pop (pv 0))))), ?_⟩
    refine ⟨_, rfl, _, _, row_dp ht, .tup (TP.at_ _) (.cons (.str _) .nil), deed_lay d, pop_lay, _, rfl, ?_⟩
    rw [eqv_pop]
    cases d with
    | push v =>
      have e : isPop (Deed.row (.push v)) = false := rfl
      rw [e]
      refine iteT ⟨_, rfl, .inl ⟨rfl, _, SqL.of hp⟩, _, rfl, _, _, _, _, rfl, rfl, ht, rfl, p, _, _, rfl, rfl, hp, ?_, ?_⟩
      · rw [List.length_map, sizeLine_eq]
        omega
      · refine k _ .upd ?_
        rw [upd_same]
        simp [act]
    | pop =>
      have e : isPop (Deed.row .pop) = true := by simp [isPop, Deed.row]
      rw [e]
      refine iteF ⟨_, rfl, p, _, rfl, .inl (SqL.of hp), rfl, _, rfl, ?_⟩
      cases hg : pile.getLast? with
      | none =>
        have en : pile = [] := by simpa using hg
        subst en
        refine iteT ?_
        exact k _ .refl (by simpa [act] using hp)
      | some v =>
        have hne : pile ≠ [] := fun q => by rw [q] at hg; cases hg
        have hl : 0 < pile.length := List.length_pos_iff.mpr hne
        have nz : decide (V.int (((pile.map V.int).length : Nat) : Int) = V.int 0) = false := decide_eq_false fun q => by
          have q2 := V.int.inj q
          rw [List.length_map] at q2
          omega
        show (if decide (V.int (((pile.map V.int).length : Nat) : Int) = V.int 0) = true then _ else _)
        rw [nz]
        refine iteF ⟨_, rfl, .inl ⟨rfl, _, SqL.of hp⟩, p, _, V.int v, rfl, rfl, hp, ?_, ?_⟩
        · rw [List.getElem?_map, List.length_map, ← List.getLast?_eq_getElem?, hg]
          rfl
        · have ea : act pile .pop = (.int v, pile.dropLast) := by simp [act, hg]
          rw [ea] at k
          refine k _ .upd ?_
          rw [upd_same, ← List.map_dropLast]
theorem scSerial : FnScope ["values", "deeds", "bad", "pile", "answers", "deed"] ["values", "deeds"] (defScope sSerial) := ⟨rfl, rfl, rfl, by decide +kernel, rfl, by decide +kernel, by decide +kernel⟩
/-- what serial calls -/
structure TxSer (K : PySem.W.Frag) (mg : Str → Option Value) (fC fF fO : Addr) : Prop where
  gC : mg "check_values" = some (.ref fC)
  gF : mg "first_bad_deed" = some (.ref fF)
  gO : mg "do_deed" = some (.ref fO)
  list : mg "list" = none
theorem ok_serial {fC fF fO B CP CD fP fD : Addr} {mc : Value} {fdC fdF fdO fdD : FuncData} (F : FnP K "serial" "serial" sSerial f fd) (T : TxSer K mg fC fF fO) (FC : FnP K "check_values" "check_values" sChkV fC fdC) (GC : FnOk P w K mg base (L2N.CX P w) 3 fC fdC ["values"] (spChkV K CP))
    (FF : FnP K "first_bad_deed" "first_bad_deed" sFirst fF fdF) (GF : FnOk P w K mg base CX0 3 fF fdF ["deeds"] (spFirst K)) (FO : FnP K "do_deed" "do_deed" sDo fO fdO) (GO : FnOk P w K mg base CX0 1 fO fdO ["pile", "deed"] (spDo K))
    (TE : TxErr K mg B CP CD fP fD mc) (FD : FnP K "__init__" "BadDeed.__init__" sInitD fD fdD) : FnOk P w K mg base (L2N.CX P w) 4 f fd ["values", "deeds"] (spSerial K CP CD) := by
  have bC : Binds K fdC ["values"] [] := FC.bindsN fun _ _ _ _ _ _ us hl => match us, hl with | [_], _ => rfl
  have bF : Binds K fdF ["deeds"] [] := FF.bindsN fun _ _ _ _ _ _ us hl => match us, hl with | [_], _ => rfl
  have bO : Binds K fdO ["pile", "deed"] [] := FO.bindsN fun _ _ _ _ _ _ us hl => match us, hl with | [_, _], _ => rfl
  have GD : FnOk P w K mg base CX0 1 fD fdD ["self", "hand", "number"] (spInit2 K CD "hand" "number") := ok_initD FD TE
  have bD : Binds K fdD ["self", "hand", "number"] [] := FD.bindsN fun _ _ _ _ _ _ us hl => match us, hl with | [_, _, _], _ => rfl
  refine fokN F scSerial (fun vs H Q E h => ?_) (fun cdv A outer s H vs Q E hr h => ?_)
  · obtain ⟨a, b, ns, ts, rs, rfl, _⟩ := h
    rfl
  · obtain ⟨a, b, ns, ts, rs, rfl, hN, hNl, hD, hR, hDl, hL, k1, k2, k3, k4⟩ := h
    refine ⟨_, pss_cons (ps_expr (pe_callS GC hr rfl T.gC FC.kp bC (fun σ => L2N.passAt (L2N.takes_of (E := E) rfl rfl rfl rfl) σ) (pa_cons (pv 0) pa_nil)))
      (pss_cons (ps_set (i := 2) scSerial.nd rfl (.inl rfl) (pe_call GF hr rfl T.gF FF.kp bF .nil pass0 (pa_cons (pv 1) pa_nil)))
      (pss_cons (ps_if (pt_cmpR op_notN (pv 2) pe_non (nomark _)) (pss_one (L2N.ps_raise rfl (L2N.takes_of rfl rfl rfl rfl) (pmkN TE.oD TE.iD TE.tD GD (hr.mono (by decide)) bD pass0 (by rfl) TE.gD (pa_cons pe_int (pa_cons (pv 2) pa_nil))))) pss_nil)
      (pss_cons (ps_set (i := 3) scSerial.nd rfl (.inl rfl) (pe_callTy call_list_of (by rfl) T.list (by decide +kernel) (pa_cons (pv 0) pa_nil)))
      (pss_cons (ps_set (i := 4) scSerial.nd rfl (.inl rfl) (pe_lst pa_nil))
      (pss_cons (ps_for (passes_of rfl) rfl (pi_list (pv 1)) (pg_name (i := 5) scSerial.nd rfl (.inl rfl))
        (pss_one (ps_expr (pe_bm PySem.F.plainAttrs_list PySem.F.slot_list_append PySem.F.type_list_append mt_append (pv 4) (pa_cons (pe_call GO (hr.mono (by decide)) rfl T.gO FO.kp bO .nil pass0 (pa_cons (pv 3) (pa_cons (pv 5) pa_nil))) pa_nil)))))
      (pss_one (ps_ret (pe_tup (pa_cons (pv 4) (pa_cons (pv 3) pa_nil)))))))))), ?_⟩
    refine ⟨_, rfl, a, ns, rfl, hN, hNl, k1, k2, fun h6 hv H1 s1 => ?_⟩
    refine ⟨_, rfl, b, ts, rs, rfl, s1.seq hD, hR.mono fun t xs z => same_tup s1 z, hL, fun H2 s2 => ?_⟩
    have s12 := s1.trans s2
    refine ⟨_, rfl, rfl, _, rfl, ?_⟩
    cases eb : firstNot okRow rs with
    | some i =>
      refine iteT ⟨_, rfl, raise2 (small_log (by decide)) (small_log ?_) fun d H' s3 e => k3 h6 hv i eb d H' (s12.trans s3) e⟩
      have := (List.getElem?_eq_some_iff.mp (firstNot_some eb).1.choose_spec.1).1
      have := hR.len
      omega
    | none =>
      obtain ⟨ds, eds, fit⟩ := deeds_of (firstNot_none eb)
      subst eds
      refine iteF ⟨_, rfl, a, _, rfl, .inl (s12.seq hN), fun p np => ⟨Nat.zero_le _, fun A nA => ?_⟩⟩
      have pA : p ≠ A := fun q => by
        rw [q, upd_same] at nA
        cases nA
      have nA2 : H2 A = none := by
        rw [upd_ne (Ne.symm pA)] at nA
        exact nA
      have hp0 : H p = none := s12.free np
      have hA0 : H A = none := s12.free nA2
      have s0 : Same H (upd (upd H2 p (.lst (ns.map V.int))) A (.lst [])) := fun c o e => by
        rw [upd_ne (ne_of_none e hA0), upd_ne (ne_of_none e hp0)]
        exact s12 c o e
      refine ⟨_, rfl, b, rfl, ⟨_, s0.seq hD⟩, for_list (K := K) (a := b) (xs := ts.map V.ref) (fun i σ H' => Same H H' ∧ H' p = some (.lst ((acts ns (ds.take i)).2.map V.int)) ∧ H' A = some (.lst (acts ns (ds.take i)).1) ∧
          ∃ v : Option V, σ = [some (.ref a), some (.ref b), some .non, some (.ref p), some (.ref A), v])
        ⟨s0, by rw [upd_ne pA, upd_same]; simp [acts], by rw [upd_same]; simp [acts], none, rfl⟩ (fun i σ H' _ z => z.1.seq hD) ?_ ?_⟩
      · rintro i x σ H' hi ⟨s3, e1, e2, v, rfl⟩
        have hi2 : i < ts.length := by
          have := (List.getElem?_eq_some_iff.mp hi).1
          rw [List.length_map] at this
          exact this
        have ex : x = V.ref ts[i] := by
          rw [List.getElem?_map, List.getElem?_eq_getElem hi2] at hi
          exact (Option.some.inj hi).symm
        subst ex
        obtain ⟨r, er, ht⟩ := hR.at_ (List.getElem?_eq_getElem hi2)
        have hid : i < ds.length := by
          have := hR.len
          rw [List.length_map] at this
          omega
        have er2 : r = ds[i].row := by
          rw [List.getElem?_map, List.getElem?_eq_getElem hid] at er
          exact (Option.some.inj er).symm
        subst er2
        have step := acts_take (pile := ns) (List.getElem?_eq_getElem hid)
        have l2 := acts_len2 ns (ds.take i)
        have l1 := acts_len1 ns (ds.take i)
        have lt : (ds.take i).length ≤ 1000 := by rw [List.length_take]; omega
        refine ⟨_, rfl, .inl ⟨rfl, _, SqL.of e2⟩, _, rfl, _, rfl, p, ts[i], (acts ns (ds.take i)).2, ds[i], rfl, e1, same_tup s3 ht, by omega, fun H4 b4 e4 => ?_⟩
        have e2' : H4 A = some (.lst (acts ns (ds.take i)).1) := b4 A _ (Ne.symm pA) e2
        refine ⟨A, _, _, rfl, rfl, e2', ?_, ?_⟩
        · rw [l1, sizeLine_eq]
          omega
        · rw [step]
          refine ⟨fun c o e => ?_, ?_, ?_, _, rfl⟩
          · rw [upd_ne (ne_of_none e hA0)]
            exact b4 c o (ne_of_none e hp0) (s3 c o e)
          · rw [upd_ne pA]
            exact e4
          · rw [upd_same]
      · rintro σ H' ⟨s3, e1, e2, v, rfl⟩
        have full : ds.take (ts.map V.ref).length = ds := by
          have := hR.len
          rw [List.length_map] at this
          rw [List.length_map, this, List.take_length]
        rw [full] at e1 e2
        refine ⟨_, rfl, _, rfl, (by show 2 ≤ sizeLine; decide), fun t nt => ?_⟩
        have nAt : A ≠ t := ne_of_none e2 nt
        have nPt : p ≠ t := ne_of_none e1 nt
        exact k4 h6 hv ds rfl fit t A p _ (s3.trans (same_upd nt)) hA0 hp0 (Ne.symm pA) upd_same (by rw [upd_ne nAt]; exact e2) (by rw [upd_ne nPt]; exact e1)
end
end Sk


/-! serial of what can be. -/
namespace Sk
open PySem PySem.Spec PyProof.Rows L2
structure TxSr (K : PySem.W.Frag) (mg : Str → Option Value) : Prop where
  serial : DefAt K mg "serial" sSerial
  do_deed : DefAt K mg "do_deed" sDo
  list : mg "list" = none
def spSer (K : PySem.W.Frag) : Sp := fun vs H Q _ => ∃ (a b : Addr) (ns : List Int) (ts : List Addr) (ds : List Deed), vs = [.ref a, .ref b] ∧ SqL K H a (ns.map V.int) ∧ FitV ns ∧ SqL K H b (ts.map V.ref) ∧ Rows K H ts (ds.map Deed.row) ∧ ds.length ≤ 1000 ∧ (∀ d ∈ ds, d.fit) ∧
  ∀ (t A B : Addr) (H' : Hp), Same H H' → H t = none → H A = none → H B = none → A ≠ B → H' t = some (.tup [.ref A, .ref B]) → H' A = some (.lst (acts ns ds).1) → H' B = some (.lst ((acts ns ds).2.map V.int)) → Q (.ref t) H'
section
variable {P : Program} {w : World} {K : PySem.W.Frag} {mg : Str → Option Value} {base : Heap}
theorem scSer : FnScope ["values", "deeds", "bad", "pile", "answers", "deed"] ["values", "deeds"] (defScope sSerial) := ⟨rfl, rfl, rfl, by decide +kernel, rfl, by decide +kernel, by decide +kernel⟩
theorem cal_do_deed (T : TxSr K mg) (TK : TxK K mg) : C8.Cal P w K mg base 1 "do_deed" (spDo K) [] := by
  obtain ⟨f, fd, F, g⟩ := T.do_deed.ex
  obtain ⟨p, tp⟩ := TK.pop
  exact cal_of F g (F.bindsN fun _ _ _ _ _ _ us hl => match us, hl with | [_, _], _ => rfl) (ok_do F tp TK.len)
theorem cal_serial (S : TxSr K mg) (TK : TxK K mg) : C8.Cal P w K mg base 4 "serial" (spSer K) [] := by
  obtain ⟨f, fd, F, g⟩ := S.serial.ex
  have T := S
  have c_check_values : C8.Cal P w K mg base 2 "check_values" (spChk K) [] := cal_check_values TK
  have c_first_bad_deed : C8.Cal P w K mg base 3 "first_bad_deed" (spFirst K) [] := cal_first_bad_deed TK
  have c_do_deed : C8.Cal P w K mg base 1 "do_deed" (spDo K) [] := cal_do_deed S TK
  refine cal_of F g (F.bindsN fun _ _ _ _ _ _ us hl => match us, hl with | [_, _], _ => rfl) (fok F scSer (fun vs H Q E h => ?_) (fun cdv A outer s H vs Q E hr h => ?_))
  · obtain ⟨a, b, ns, ts, ds, rfl, _⟩ := h
    rfl
  · obtain ⟨a, b, ns, ts, ds, rfl, hN, fv, hD, hR, hDl, fit, fin⟩ := h
    refine ⟨_, (pss_cons
    (ps_expr (C8.pe_c c_check_values hr (by decide) (by rfl) (pa_cons (pv 0) pa_nil))) (pss_cons
    (ps_set (i := 2) scSer.nd rfl (.inl rfl) (C8.pe_c c_first_bad_deed hr (by decide) (by rfl) (pa_cons (pv 1) pa_nil))) (pss_cons
    (ps_if (pt_cmpR op_notN (pv 2) pe_non (nomark _)) (pss_one (ps_no)) pss_nil) (pss_cons
    (ps_set (i := 3) scSer.nd rfl (.inl rfl) (pe_callTy call_list_of (by rfl) T.list (by decide +kernel) (pa_cons (pv 0) pa_nil))) (pss_cons
    (ps_set (i := 4) scSer.nd rfl (.inl rfl) (pe_lst pa_nil)) (pss_cons
    (ps_for PassesOwn.never rfl (pi_list (pv 1)) (pg_name (i := 5) scSer.nd rfl (.inl rfl)) (pss_one (ps_expr (pe_bm PySem.F.plainAttrs_list PySem.F.slot_list_append PySem.F.type_list_append mt_append (pv 4) (pa_cons (C8.pe_c c_do_deed hr (by decide) (by rfl) (pa_cons (pv 3) (pa_cons (pv 5) pa_nil))) pa_nil))))) (pss_one
    (ps_ret (pe_tup (pa_cons (pv 4) (pa_cons (pv 3) pa_nil))))))))))), ?_⟩
    refine ⟨_, rfl, a, ns, rfl, hN, fv, fun H1 s1 => ?_⟩
    refine ⟨_, rfl, b, ts, ds.map Deed.row, rfl, s1.seq hD, hR.mono fun t xs z => same_tup s1 z, fun r hr => ?_, fun H2 s2 => ?_⟩
    · obtain ⟨d, _, e⟩ := List.mem_map.mp hr
      rw [← e]
      exact deed_lay d
    have s12 := s1.trans s2
    have tl := hR.len
    rw [List.length_map] at tl
    rw [rows_ok fit]
    refine ⟨_, rfl, rfl, _, rfl, iteF ⟨_, rfl, a, _, rfl, .inl (s12.seq hN), fun p np => ⟨Nat.zero_le _, fun A nA => ?_⟩⟩⟩
    have pA : p ≠ A := fun q => by
      rw [q, upd_same] at nA
      cases nA
    have nA2 : H2 A = none := by
      rw [upd_ne (Ne.symm pA)] at nA
      exact nA
    have hp0 : H p = none := s12.free np
    have hA0 : H A = none := s12.free nA2
    have s0 : Same H (upd (upd H2 p (.lst (ns.map V.int))) A (.lst [])) := fun c o e => by
      rw [upd_ne (ne_of_none e hA0), upd_ne (ne_of_none e hp0)]
      exact s12 c o e
    refine ⟨_, rfl, b, rfl, ⟨_, s0.seq hD⟩, for_list (K := K) (a := b) (xs := ts.map V.ref) (fun i σ H' => Same H H' ∧ H' p = some (.lst ((acts ns (ds.take i)).2.map V.int)) ∧ H' A = some (.lst (acts ns (ds.take i)).1) ∧
        ∃ v : Option V, σ = [some (.ref a), some (.ref b), some .non, some (.ref p), some (.ref A), v])
      ⟨s0, by rw [upd_ne pA, upd_same]; simp [acts], by rw [upd_same]; simp [acts], none, rfl⟩ (fun i σ H' _ z => z.1.seq hD) ?_ ?_⟩
    · rintro i x σ H' hi ⟨s3, e1, e2, v, rfl⟩
      have hi2 : i < ts.length := by
        have := (List.getElem?_eq_some_iff.mp hi).1
        rw [List.length_map] at this
        exact this
      have ex : x = V.ref ts[i] := by
        rw [List.getElem?_map, List.getElem?_eq_getElem hi2] at hi
        exact (Option.some.inj hi).symm
      subst ex
      obtain ⟨r, er, ht⟩ := hR.at_ (List.getElem?_eq_getElem hi2)
      have hid : i < ds.length := by omega
      have er2 : r = ds[i].row := by
        rw [List.getElem?_map, List.getElem?_eq_getElem hid] at er
        exact (Option.some.inj er).symm
      subst er2
      have step := acts_take (pile := ns) (List.getElem?_eq_getElem hid)
      have l2 := acts_len2 ns (ds.take i)
      have l1 := acts_len1 ns (ds.take i)
      have lt : (ds.take i).length ≤ 1000 := by rw [List.length_take]; omega
      have fv1 := fv.1
      refine ⟨_, rfl, .inl ⟨rfl, _, SqL.of e2⟩, _, rfl, _, rfl, p, ts[i], (acts ns (ds.take i)).2, ds[i], rfl, e1, same_tup s3 ht, by omega, fun H4 b4 e4 => ?_⟩
      have e2' : H4 A = some (.lst (acts ns (ds.take i)).1) := b4 A _ (Ne.symm pA) e2
      refine ⟨A, _, _, rfl, rfl, e2', ?_, ?_⟩
      · rw [l1, sizeLine_eq]
        omega
      · rw [step]
        refine ⟨fun c o e => ?_, ?_, ?_, _, rfl⟩
        · rw [upd_ne (ne_of_none e hA0)]
          exact b4 c o (ne_of_none e hp0) (s3 c o e)
        · rw [upd_ne pA]
          exact e4
        · rw [upd_same]
    · rintro σ H' ⟨s3, e1, e2, v, rfl⟩
      have full : ds.take (ts.map V.ref).length = ds := by rw [List.length_map, tl, List.take_length]
      rw [full] at e1 e2
      refine ⟨_, rfl, _, rfl, (by show 2 ≤ sizeLine; decide), fun t nt => ?_⟩
      have nAt : A ≠ t := ne_of_none e2 nt
      have nPt : p ≠ t := ne_of_none e1 nt
      exact fin t A p _ (s3.trans (same_upd nt)) (s3.free nt) hA0 hp0 (Ne.symm pA) upd_same (by rw [upd_ne nAt]; exact e2) (by rw [upd_ne nPt]; exact e1)
end
end Sk


/-! safe_counts. -/
namespace Sk
open PySem PySem.Spec PyProof.Rows L2
/-- no weaving comes to a stale exchange -/
def FreshR (r : Rule) (xs : List Int) (ps : List (List Deed)) : Prop := ∀ w, (∀ j ∈ w, j < ps.length) → staleAt r xs ps w = false
def spSafeCounts (K : PySem.W.Frag) : Sp := fun vs H Q _ => ∃ (a p : Addr) (xs : List Int) (ps : List (List Deed)), vs = [.ref a, .ref p] ∧ SqL K H a (xs.map V.int) ∧ FitV xs ∧ Progs K H p ps ∧ Fit ps ∧
  (∀ m, 1 ≤ m → m ≤ 15 → safeB (.counts m) ps = false → MayB ps → GoodS (.counts m) (plainPs ps) (S0of xs.length ps) 253) ∧
  ∀ (D : Addr) (H' : Hp) (ms : List Nat), Same H H' → H D = none → H' D = some (.lst (vN ms)) → ms.Pairwise (· < ·) → (∀ m, m ∈ ms ↔ 1 ≤ m ∧ m ≤ 15 ∧ FreshR (.counts m) xs ps) → Q (.ref D) H'
section
variable {P : Program} {w : World} {K : PySem.W.Frag} {mg : Str → Option Value} {base : Heap}
theorem scSafeCounts : FnScope ["values", "programs", "counts", "m"] ["values", "programs"] (defScope s_safe_counts) := ⟨rfl, rfl, rfl, by decide +kernel, rfl, by decide +kernel, by decide +kernel⟩
theorem cal_safe_counts {pp : Addr} (S : TxSt K mg) (TK : TxK K mg) (SE : TxSe K mg) (TS : TxS K mg) (TT : TxT K mg) (TC : TxC mg) (Dw : DefAt K mg "without_value" s_without_value) (TP : TxPop K mg pp) (D : DefAt K mg "safe_counts" s_safe_counts) : C8.Cal P w K mg base 8 "safe_counts" (spSafeCounts K) [] := by
  obtain ⟨f, fd, F, g⟩ := D.ex
  have T := SE
  have C := TK
  have c_check_pile_and_programs : C8.Cal P w K mg base 5 "check_pile_and_programs" (spChkVP K) [] := cal_check_pile_and_programs TK
  have c_first_stale : C8.Cal P w K mg base 7 "first_stale" (spFirstFull K) [] := cal_first_full S SE TS TT TC Dw TP (cal_may S TP)
  refine cal_of F g (F.bindsN fun _ _ _ _ _ _ us hl => match us, hl with | [_, _], _ => rfl) (fok F scSafeCounts (fun vs H Q E h => ?_) (fun cdv A outer s0 H vs Q E hr h => ?_))
  · obtain ⟨a, p, xs, ps, rfl, _⟩ := h
    rfl
  · obtain ⟨a, p, xs, ps, rfl, hv, fv, pg, ft, good, fin⟩ := h
    refine ⟨_, (pss_cons
    (ps_expr (C8.pe_c c_check_pile_and_programs hr (by decide) (by rfl) (pa_cons (pv 0) (pa_cons (pv 1) pa_nil)))) (pss_cons
    (ps_set (i := 2) scSafeCounts.nd rfl (.inl rfl) (pe_callTy call_range2 (by rfl) T.range boot_range (pa_cons pe_int (pa_cons (pe_op op_add (pe_num (n := 15) rfl C.MOST_COUNTS) pe_int) pa_nil)))) (pss_one
    (ps_ret (pe_lc (own := [("m", 3)]) (g := gName 3) rfl scSafeCounts.nd (pi_rng (pv 2)) (blkOk_by (N := (["values", "programs", "counts", "m"])) (sc := defScope s_safe_counts) (by decide +kernel)) (fun _ _ _ _ _ => pg_name (i := 3) scSafeCounts.nd rfl (Or.inl rfl)) (fun _ _ _ _ _ => pts_one (pt_cmpR op_isN (C8.pe_c c_first_stale hr (by decide) (by rfl) (pa_cons (pe_callB (r := rLenOf K) call_lenK (by rfl) T.len PySem.boot_len (pa_cons (pv 0) pa_nil)) (pa_cons (pv 1) (pa_cons (pe_tup (pa_cons pe_str (pa_cons (pv 3) pa_nil))) pa_nil)))) pe_non (nomark _))) (fun _ _ _ _ _ => (pv 3))))))), ?_⟩
    refine ⟨_, rfl, _, rfl, a, p, xs, ps, rfl, hv, fv, pg, ft, fun H1 s1 => ?_⟩
    refine ⟨_, _, rfl, rfl, _, _, rfl, fun Rg nRg => ?_⟩
    have sR := same_upd (o := .rng 1 (15 + 1)) nRg
    have eR : upd H1 Rg (.rng 1 (15 + 1)) Rg = some (.rng 1 (15 + 1)) := upd_same
    have s2 := s1.trans sR
    generalize upd H1 Rg (.rng 1 (15 + 1)) = H2 at s2 eR ⊢
    refine ⟨_, rfl, Rg, _, _, rfl, eR, ⟨by decide, by decide, by decide, by decide⟩, fun D nD => ?_⟩
    have nD0 := none_back s2 nD
    refine lc_range (lo := 1) (n := 15) (fun i H3 => Same H2 H3 ∧ ∃ ms : List Nat, H3 D = some (.lst (vN ms)) ∧ ms.length ≤ i ∧ ms.Pairwise (· < ·) ∧ ∀ m, m ∈ ms ↔ 1 ≤ m ∧ m ≤ i ∧ FreshR (.counts m) xs ps) ⟨same_upd nD, [], upd_same, Nat.le_refl _, .nil, fun m => ⟨fun z => (by cases z), fun z => (by obtain ⟨z1, z2, _⟩ := z; omega)⟩⟩ ?_ ?_
    · rintro i H3 hi ⟨s3, ms, eD, lm, pm, mm⟩
      have e1 : (1 : Int) + (i : Int) = ((i + 1 : Nat) : Int) := by omega
      rw [e1]
      have s23 := s2.trans s3
      have fv1 := fv.1
      refine ⟨rfl, _, rfl, a, _, rfl, .inl (s23.seq hv), _, rfl, _, rfl, by show 2 ≤ sizeLine; decide, fun tr ntr => ?_⟩
      have sT := same_upd (o := .tup [V.str "counts", .int ((i + 1 : Nat) : Int)]) ntr
      have ru : RuleAt (upd H3 tr (.tup [V.str "counts", .int ((i + 1 : Nat) : Int)])) tr (.counts (i + 1)) := upd_same
      have rf : (Rule.counts (i + 1)).fit ps.length := ⟨by omega, by omega⟩
      have eD4 := sT _ _ eD
      have s4 := s3.trans sT
      generalize upd H3 tr (.tup [V.str "counts", .int ((i + 1 : Nat) : Int)]) = H4 at ru eD4 s4 ⊢
      refine ⟨xs.length, p, tr, ps, .counts (i + 1), by rw [List.length_map]; rfl, by omega, pg.same (s2.trans s4), ft, ru, fit_pos rf, good (i + 1) (by omega) (by omega), fun H5 s5 h => ?_, fun D5 H5 T u j s5 nD5 h1 h2 h3 h4 h5 h6 => ?_⟩
      · have no : FreshR (.counts (i + 1)) xs ps := none_stale ft rf h
        refine ⟨rfl, _, rfl, iteT ⟨_, rfl, _, s5 _ _ eD4, by unfold vN; rw [List.length_map, sizeLine_eq]; omega, sameN (s4.trans s5) nD, ms ++ [i + 1], ?_, ?_, ?_, fun m => ?_⟩⟩
        · rw [upd_same]
          unfold vN
          rw [List.map_append]
          rfl
        · rw [List.length_append]
          show ms.length + 1 ≤ i + 1
          omega
        · refine List.pairwise_append.mpr ⟨pm, List.pairwise_singleton _ _, fun x hx y hy => ?_⟩
          rw [List.mem_singleton.mp hy]
          have := ((mm x).mp hx).2.1
          omega
        · rw [List.mem_append, List.mem_singleton, mm]
          constructor
          · rintro (⟨z1, z2, z3⟩ | rfl)
            · exact ⟨z1, by omega, z3⟩
            · exact ⟨by omega, by omega, no⟩
          · rintro ⟨z1, z2, z3⟩
            by_cases q : m = i + 1
            · exact .inr q
            · exact .inl ⟨z1, by omega, z3⟩
      · have SW := some_stale ft h1 h2 h3 h4 h5
        refine ⟨rfl, _, rfl, iteF ⟨s4.trans s5, ms, s5 _ _ eD4, by omega, pm, fun m => ?_⟩⟩
        rw [mm]
        constructor
        · rintro ⟨z1, z2, z3⟩
          exact ⟨z1, by omega, z3⟩
        · rintro ⟨z1, z2, z3⟩
          refine ⟨z1, ?_, z3⟩
          refine Classical.byContradiction fun q => ?_
          have e : m = i + 1 := by omega
          subst e
          have l := SW.last
          rw [z3 (u ++ [j]) SW.low] at l
          cases l
    · rintro H3 ⟨s3, ms, eD, lm, pm, mm⟩
      exact fin D H3 ms (s2.trans s3) nD0 eD pm mm
end
end Sk


/-! combinations: what is known of the type. -/
namespace Sk
open PySem PySem.Spec PyProof.Rows L2
theorem slot_comb_iter : Slot "itertools.combinations" "__iter__" "itertools.combinations.__iter__" :=
  .of (owner := "itertools.combinations") (n := "__iter__") (by rw [typeLookup_type, builtinLookup_eq_fast]; kernel_rfl) (by decide +kernel) (by decide +kernel) (by decide +kernel)
    (by first | exact .inl (by decide +kernel) | exact .inr (by decide +kernel)) (by rw [isSubtype_type]; kernel_rfl)
theorem slot_comb_next : Slot "itertools.combinations" "__next__" "itertools.combinations.__next__" :=
  .of (owner := "itertools.combinations") (n := "__next__") (by rw [typeLookup_type, builtinLookup_eq_fast]; kernel_rfl) (by decide +kernel) (by decide +kernel) (by decide +kernel)
    (by first | exact .inl (by decide +kernel) | exact .inr (by decide +kernel)) (by rw [isSubtype_type]; kernel_rfl)
theorem slot_comb_init : Slot "itertools.combinations" "__init__" "object.__init__" :=
  .of (owner := "object") (n := "__init__") (by rw [typeLookup_type, builtinLookup_eq_fast]; kernel_rfl) (by decide +kernel) (by decide +kernel) (by decide +kernel)
    (by first | exact .inl (by decide +kernel) | exact .inr (by decide +kernel)) (by rw [isSubtype_type]; kernel_rfl)
theorem entry_comb_iter : entryFor table "itertools.combinations.__iter__" = some Builtin.«dict_keyiterator.__iter__» :=
  entryFor_alias (id' := "dict_keyiterator.__iter__") (by kernel_rfl) (by first | rfl | decide +kernel | (unfold String.splitOn; simp +decide [String.splitOnAux])) (by decide +kernel) (by kernel_rfl)
theorem entry_comb_next : entryFor table "itertools.combinations.__next__" = some Builtin.«itertools.combinations.__next__» := entryFor_of_tree (by kernel_rfl)
theorem entry_comb_new : entryFor table "itertools.combinations.__new__" = some Builtin.«itertools.combinations.__new__» := entryFor_of_tree (by kernel_rfl)
theorem mro_comb : mroOf (.type "itertools.combinations") = pure [.type "itertools.combinations", .type "object"] := by rw [mroOf_type]; kernel_rfl
theorem lookup_comb_new : typeLookup (.type "itertools.combinations") "__new__" = pure (some (.builtin "itertools.combinations.__new__")) := by rw [typeLookup_type, builtinLookup_eq_fast]; kernel_rfl
theorem called_comb : TypeCalled "itertools.combinations" "itertools.combinations.__new__" "object.__init__" :=
  ⟨by decide +kernel, by decide +kernel, ⟨_, _, mro_comb⟩, madeBy_type mro_comb lookup_comb_new (by decide +kernel), by decide +kernel, by rw [isSubtype_type]; kernel_rfl, slot_comb_init⟩
theorem typeCall_comb (a b : Value) : checkTypeCall "itertools.combinations" ⟨[a, b], []⟩ = pure () := by kernel_rfl
theorem newCall_comb (a b : Value) : checkBuiltinCall "itertools.combinations.__new__" ⟨[.type "itertools.combinations", a, b], []⟩ = pure () := by kernel_rfl
theorem sub_comb : isSubtype (.type "itertools.combinations") (.type "itertools.combinations") = pure true := by rw [isSubtype_type]; kernel_rfl
end Sk


/-! combinations: what comes next. -/
namespace Sk
open PySem PySem.Spec PyProof.Rows L2
theorem owner_comb : Manifest.owners.lookup (String.ofList ['s', 'n', 'o', 'i', 't', 'a', 'n', 'i', 'b', 'm', 'o', 'c', '.', 's', 'l', 'o', 'o', 't', 'r', 'e', 't', 'i'].reverse) = some Manifest.sig_itertools_combinations := by kernel_rfl
theorem args_comb_next (a : Value) : argsOk "itertools.combinations.__next__" ⟨[a], []⟩ := by
  unfold argsOk; rw [signature?_of (id := "itertools.combinations.__next__") (n := ['_', '_', 't', 'x', 'e', 'n', '_', '_']) (o := ['s', 'n', 'o', 'i', 't', 'a', 'n', 'i', 'b', 'm', 'o', 'c', '.', 's', 'l', 'o', 'o', 't', 'r', 'e', 't', 'i']) (by kernel_rfl) owner_comb]; kernel_rfl
theorem args_comb_iter (a : Value) : argsOk "itertools.combinations.__iter__" ⟨[a], []⟩ := by
  unfold argsOk; rw [signature?_of (id := "itertools.combinations.__iter__") (n := ['_', '_', 'r', 'e', 't', 'i', '_', '_']) (o := ['s', 'n', 'o', 'i', 't', 'a', 'n', 'i', 'b', 'm', 'o', 'c', '.', 's', 'l', 'o', 'o', 't', 'r', 'e', 't', 'i']) (by kernel_rfl) owner_comb]; kernel_rfl
def idxV (idx : List Nat) : List Value := idx.map fun (i : Nat) => rawInt (i : Int)
abbrev combO (pool : Addr) (st : Int) (res : Value) (idx : List Nat) : Obj := { cls := .type "itertools.combinations", dict := none, data := .fields (#[Value.ref pool, rawInt st, res] ++ (idxV idx).toArray), slots := #[] }
section
variable {prog : Program} {w : World} {A : Around} {E : Value → Shared → Prop} {s : Shared} {z pool : Addr} {res : Value} {idx : List Nat}
theorem nums_comb {B : Around} {st : Int} {Q : List Nat → Shared → Prop} (hz : s.heap.get? z = some (combO pool st res idx)) (h : Q idx s) : wpAny (model prog w) B (Builtin.Itertools.itNumbersFrom (.ref z) 3) Q E s := by
  unfold Builtin.Itertools.itNumbersFrom
  refine wpAny_bind (wpAny_load hz (wpAny_pure ?_))
  have e : (((#[Value.ref pool, rawInt st, res] ++ (idxV idx).toArray).toList.drop 3).map fun v => match v with | .int n _ => n.toNat | _ => 0) = idx := by
    have e1 : (#[Value.ref pool, rawInt st, res] ++ (idxV idx).toArray).toList.drop 3 = idxV idx := by simp
    rw [e1]
    unfold idxV
    rw [List.map_map]
    conv => rhs; rw [← List.map_id idx]
    refine List.map_congr_left fun i _ => ?_
    show (i : Int).toNat = i
    exact Int.toNat_natCast i
  show Q (((#[Value.ref pool, rawInt st, res] ++ (idxV idx).toArray).toList.drop 3).map fun v => match v with | .int n _ => n.toNat | _ => 0) s
  rw [e]
  exact h
/-- a tuple is handed out and held -/
theorem comb_out {st : Int} {items : Array Value} {ob : Obj} {k : Nat} {B : Around} {Q : Fin → Shared → Prop} (hz : s.heap.get? z = some (combO pool st res idx)) (hp : s.heap.get? pool = some ob) (hd : ob.data = .seq items k) (sm : idx.length ≤ 100)
    (hq : ∀ h', h'.get? z = some (combO pool st (.ref s.heap.objs.size) idx) → h'.get? s.heap.objs.size = some { cls := .type "tuple", data := .seq (idx.map fun i => items.getD i .none).toArray } → (∀ c o, c ≠ z → s.heap.get? c = some o → h'.get? c = some o) → Q (.done (.ret (.ref s.heap.objs.size))) { s with heap := h' }) :
    wpAny (model prog w) B ((do
      let items ← Builtin.Itertools.itPoolItems (.ref pool)
      newTuple (idx.map fun i => items.getD i .none)) >>= fun result => (do
      let before ← field (.ref z) 2
      setField (.ref z) 2 result
      letGo [before] [result]
      ret result)) Q E s := by
  refine wpAny_bind ?_
  refine wpAny_bind ?_
  unfold Builtin.Itertools.itPoolItems
  refine wpAny_bind (wpAny_seqItems hp hd (wpAny_pure ?_))
  refine wpAny_newTuple ?_ (by rw [List.length_map, sizeLine_eq]; omega)
  have lz := Heap.lt_size hz
  have hz1 : (s.heap.push { cls := .type "tuple", data := .seq (idx.map fun i => items.getD i .none).toArray }).get? z = some (combO pool st res idx) := Heap.get?_push_of_some _ hz
  refine wpAny_bind (wpAny_field (s := { s with heap := s.heap.push { cls := .type "tuple", data := .seq (idx.map fun i => items.getD i .none).toArray } }) hz1 rfl (x := res) (by simp) ?_)
  refine wpAny_bind (wpAny_setField_rec (s := { s with heap := s.heap.push { cls := .type "tuple", data := .seq (idx.map fun i => items.getD i .none).toArray } }) hz1 (by simp) fun h2 e2 k2 => ?_)
  refine wpAny_bind (wpAny_letGo ?_)
  refine wpAny_pure (hq h2 ?_ ?_ ?_)
  · rw [e2]
    congr 1
    simp [combO]
  · rw [k2.2 _ (Nat.ne_of_gt lz)]
    exact Heap.get?_push_size _ rfl
  · intro c o nc ho
    rw [k2.2 c nc]
    exact Heap.get?_push_of_some _ ho
theorem comb_first {items : Array Value} {ob : Obj} {k : Nat} {Q : Value → Shared → Prop} (hz : s.heap.get? z = some (combO pool 0 res idx)) (hp : s.heap.get? pool = some ob) (hd : ob.data = .seq items k) (pz : pool ≠ z) (sm : idx.length ≤ 100)
    (hq : ∀ h', h'.get? z = some (combO pool 1 (.ref s.heap.objs.size) idx) → h'.get? s.heap.objs.size = some { cls := .type "tuple", data := .seq (idx.map fun i => items.getD i .none).toArray } → (∀ c o, c ≠ z → s.heap.get? c = some o → h'.get? c = some o) → Q (.ref s.heap.objs.size) { s with heap := h' }) :
    wpAny (model prog w) A (Builtin.«itertools.combinations.__next__» ⟨[.ref z], []⟩) (fun fin s' => ∃ v, fin = .done (.ret v) ∧ Q v s') E s := by
  show wpAny _ _ (pure (Value.ref z, ([] : List Value)) >>= _) _ _ s
  refine wpAny_bind (wpAny_pure ?_)
  show wpAny _ _ (field (.ref z) 0 >>= _) _ _ s
  refine wpAny_bind (wpAny_field hz rfl (x := .ref pool) (by simp) ?_)
  show wpAny _ _ (Builtin.Itertools.itNumbersFrom (.ref z) 3 >>= _) _ _ s
  refine wpAny_bind (nums_comb hz ?_)
  show wpAny _ _ (Builtin.Itertools.itIntField (.ref z) 1 >>= _) _ _ s
  refine wpAny_bind ?_
  unfold Builtin.Itertools.itIntField
  refine wpAny_bind (wpAny_field hz rfl (x := rawInt 0) (by simp) ?_)
  refine wpAny_pure ?_
  show wpAny _ _ (setField (.ref z) 1 (rawInt 1) >>= _) _ _ s
  refine wpAny_bind (wpAny_setField_rec hz (by simp) fun h1 e1 k1 => ?_)
  have hz1 : h1.get? z = some (combO pool 1 res idx) := by
    rw [e1]
    congr 1
    simp [combO]
  have sz : h1.objs.size = s.heap.objs.size := k1.1
  refine comb_out (s := { s with heap := h1 }) (st := 1) hz1 ((k1.2 pool pz).trans hp) hd sm fun h' a b c => ?_
  refine ⟨_, rfl, ?_⟩
  have a : h'.get? z = some (combO pool 1 (.ref h1.objs.size) idx) := a
  have b : h'.get? h1.objs.size = _ := b
  show Q (.ref h1.objs.size) { s with heap := h' }
  rw [sz] at a b ⊢
  exact hq h' a b fun x o nx ho => c x o nx ((k1.2 x nx).trans ho)
/-- which places come next -/
def nextC (n : Nat) (indices : List Nat) : Option (List Nat) :=
  let r := indices.length
  match (List.range r).reverse.find? fun i => indices.getD i 0 != i + n - r with
  | none => none
  | some i => some (indices.take i ++ (List.range (r - i)).map (indices.getD i 0 + 1 + ·))
theorem comb_more {items : Array Value} {ob : Obj} {k : Nat} {nx : List Nat} {Q : Value → Shared → Prop} (hz : s.heap.get? z = some (combO pool 1 res idx)) (hp : s.heap.get? pool = some ob) (hd : ob.data = .seq items k) (pz : pool ≠ z) (sm : nx.length ≤ 100) (hn : nextC items.size idx = some nx)
    (hq : ∀ h', h'.get? z = some (combO pool 1 (.ref s.heap.objs.size) nx) → h'.get? s.heap.objs.size = some { cls := .type "tuple", data := .seq (nx.map fun i => items.getD i .none).toArray } → (∀ c o, c ≠ z → s.heap.get? c = some o → h'.get? c = some o) → Q (.ref s.heap.objs.size) { s with heap := h' }) :
    wpAny (model prog w) A (Builtin.«itertools.combinations.__next__» ⟨[.ref z], []⟩) (fun fin s' => ∃ v, fin = .done (.ret v) ∧ Q v s') E s := by
  show wpAny _ _ (pure (Value.ref z, ([] : List Value)) >>= _) _ _ s
  refine wpAny_bind (wpAny_pure ?_)
  show wpAny _ _ (field (.ref z) 0 >>= _) _ _ s
  refine wpAny_bind (wpAny_field hz rfl (x := .ref pool) (by simp) ?_)
  show wpAny _ _ (Builtin.Itertools.itNumbersFrom (.ref z) 3 >>= _) _ _ s
  refine wpAny_bind (nums_comb hz ?_)
  show wpAny _ _ (Builtin.Itertools.itIntField (.ref z) 1 >>= _) _ _ s
  refine wpAny_bind ?_
  unfold Builtin.Itertools.itIntField
  refine wpAny_bind (wpAny_field hz rfl (x := rawInt 1) (by simp) ?_)
  refine wpAny_pure ?_
  show wpAny _ _ (Builtin.Itertools.itPoolItems (.ref pool) >>= _) _ _ s
  refine wpAny_bind ?_
  unfold Builtin.Itertools.itPoolItems
  refine wpAny_bind (wpAny_seqItems hp hd (wpAny_pure ?_))
  split
  · rename_i nx2 e
    have e : nextC items.size idx = some nx2 := e
    rw [hn] at e
    have e := Option.some.inj e
    subst e
    refine wpAny_bind ?_
    unfold Builtin.Itertools.itSetNumbersFrom
    refine wpAny_updateFields hz rfl ?_ ?_
    · have e1 : (s.heap.update z (Obj.mapFields fun fs => fs.extract 0 3 ++ (nx.map fun (n : Nat) => rawInt n).toArray)).get? z = some (combO pool 1 res nx) := by
        rw [Heap.get?_update_self _ hz rfl]
        congr 1
        simp [combO, Obj.mapFields, idxV]
      have k1 : Heap.SameBut z s.heap (s.heap.update z (Obj.mapFields fun fs => fs.extract 0 3 ++ (nx.map fun (n : Nat) => rawInt n).toArray)) := Heap.SameBut.update ..
      generalize s.heap.update z (Obj.mapFields fun fs => fs.extract 0 3 ++ (nx.map fun (n : Nat) => rawInt n).toArray) = h1 at e1 k1 ⊢
      refine comb_out (s := { s with heap := h1 }) (st := 1) e1 ((k1.2 pool pz).trans hp) hd sm fun h' a b c => ?_
      refine ⟨_, rfl, ?_⟩
      have a : h'.get? z = some (combO pool 1 (.ref h1.objs.size) nx) := a
      have b : h'.get? h1.objs.size = _ := b
      show Q (.ref h1.objs.size) { s with heap := h' }
      rw [show h1.objs.size = s.heap.objs.size from k1.1] at a b ⊢
      exact hq h' a b fun x o nx ho => c x o nx ((k1.2 x nx).trans ho)
    · simp [sizeLine_eq]
      omega
  · rename_i e
    have e : nextC items.size idx = none := e
    rw [hn] at e
    cases e
end
end Sk


/-! combinations: walked. -/
namespace Sk
open PySem PySem.Spec PyProof.Rows L2
/-- the places, one after another -/
structure CombOk (n : Nat) (L : List (List Nat)) : Prop where
  ne : L ≠ []
  step : ∀ (i : Nat) (a b : List Nat), L[i]? = some a → L[i + 1]? = some b → nextC n a = some b
  last : ∀ a, L[L.length - 1]? = some a → nextC n a = none
  small : ∀ a ∈ L, a.length ≤ 100 ∧ ∀ x ∈ a, x < n
abbrev tupO (items : Array Value) : Obj := { cls := .type "tuple", data := .seq items }
/-- the items are 0, 1, .. -/
def Ints (items : Array Value) (n : Nat) : Prop := items.size = n ∧ ∀ i, i < n → ∃ t, items.getD i .none = .int (i : Int) t
section
variable {prog : Program} {w : World} {A : Around} {E : Value → Shared → Prop} {s : Shared} {z pool : Addr} {res : Value} {idx : List Nat}
theorem pyIter_comb {st : Int} {Q : Value → Shared → Prop} (hz : s.heap.get? z = some (combO pool st res idx)) (h : Q (.ref z) s) : wpAny (model prog w) A (pyIter (.ref z)) Q E s := by
  have hT : s.TypeIs (.ref z) "itertools.combinations" := ⟨_, hz, rfl⟩
  refine wpAny_pyIter_slot hT slot_comb_iter (wpAny_call_entry slot_comb_iter hT entry_comb_iter ?_ (args_comb_iter _))
  show wpAny _ _ (ret (.ref z)) _ _ s
  exact wpAny_pure ⟨_, rfl, "itertools.combinations", _, hT, slot_comb_next.lookup, h⟩
theorem comb_item {items : Array Value} {st : Int} {nx : List Nat} {Q : Option Value → Shared → Prop} (hz : s.heap.get? z = some (combO pool st res idx)) (hp : s.heap.get? pool = some (tupO items)) (pz : pool ≠ z) (sm : nx.length ≤ 100)
    (hn : (st = 0 ∧ nx = idx) ∨ (st = 1 ∧ nextC items.size idx = some nx))
    (hq : ∀ h', h'.get? z = some (combO pool 1 (.ref s.heap.objs.size) nx) → h'.get? s.heap.objs.size = some (tupO (nx.map fun i => items.getD i .none).toArray) → (∀ c o, c ≠ z → s.heap.get? c = some o → h'.get? c = some o) → Q (some (.ref s.heap.objs.size)) { s with heap := h' }) :
    wpAny (model prog w) A (pyNext (.ref z)) Q E s := by
  have hT : s.TypeIs (.ref z) "itertools.combinations" := ⟨_, hz, rfl⟩
  unfold pyNext
  rcases hn with ⟨rfl, rfl⟩ | ⟨rfl, hn⟩
  · exact wpAny_bind (wpAny_attempt (wpAny_callSpecial?_slot (name := Str.ofString "__next__") hT slot_comb_next (wpAny_call_entry slot_comb_next hT entry_comb_next (comb_first hz hp rfl pz sm fun h' a b c => wpAny_pure (hq h' a b c)) (args_comb_next _))))
  · exact wpAny_bind (wpAny_attempt (wpAny_callSpecial?_slot (name := Str.ofString "__next__") hT slot_comb_next (wpAny_call_entry slot_comb_next hT entry_comb_next (comb_more hz hp rfl pz sm hn fun h' a b c => wpAny_pure (hq h' a b c)) (args_comb_next _))))
theorem comb_end {items : Array Value} {Q : Option Value → Shared → Prop} (hh : A.handled = none) (hz : s.heap.get? z = some (combO pool 1 res idx)) (hp : s.heap.get? pool = some (tupO items)) (hn : nextC items.size idx = none)
    (hQ : ∀ h', Heap.ExtBut z s.heap h' → Q none { s with heap := h' }) : wpAny (model prog w) A (pyNext (.ref z)) Q E s := by
  have hT : s.TypeIs (.ref z) "itertools.combinations" := ⟨_, hz, rfl⟩
  unfold pyNext
  refine wpAny_bind (wpAny_attempt (wpAny_callSpecial?_slot (name := Str.ofString "__next__") hT slot_comb_next (wpAny_call_entry slot_comb_next hT entry_comb_next ?_ (args_comb_next _))))
  show wpAny _ _ (pure (Value.ref z, ([] : List Value)) >>= _) _ _ s
  refine wpAny_bind (wpAny_pure ?_)
  show wpAny _ _ (field (.ref z) 0 >>= _) _ _ s
  refine wpAny_bind (wpAny_field hz rfl (x := .ref pool) (by simp) ?_)
  show wpAny _ _ (Builtin.Itertools.itNumbersFrom (.ref z) 3 >>= _) _ _ s
  refine wpAny_bind (nums_comb hz ?_)
  show wpAny _ _ (Builtin.Itertools.itIntField (.ref z) 1 >>= _) _ _ s
  refine wpAny_bind ?_
  unfold Builtin.Itertools.itIntField
  refine wpAny_bind (wpAny_field hz rfl (x := rawInt 1) (by simp) ?_)
  refine wpAny_pure ?_
  show wpAny _ _ (Builtin.Itertools.itPoolItems (.ref pool) >>= _) _ _ s
  refine wpAny_bind ?_
  unfold Builtin.Itertools.itPoolItems
  refine wpAny_bind (wpAny_seqItems hp rfl (wpAny_pure ?_))
  split
  · rename_i nx2 e
    have e : nextC items.size idx = some nx2 := e
    rw [hn] at e
    cases e
  · refine wpAny_bind (wpAny_setField_rec hz (by simp) fun h1 e1 k1 => ?_)
    unfold Builtin.Itertools.itStop
    refine wpAny_bind ?_
    simp only [newExc, newTuple]
    refine wpAny_bind (wpAny_newObj_type ?_ (by size_fits))
    refine wpAny_bind (m := firstArgMember _ _) (wpAny_of_eq (a := Value.none) (by first | rfl | (simp only [firstArgMember]; rfl)) ?_)
    refine wpAny_newObj_type ?_ (by size_fits)
    simp only [raiseNew]
    refine wpAny_bind (wpAny_handled ?_)
    first | rw [show A.in1.handled = none from hh] | rw [hh]
    refine wpAny_bind (wpAny_pure (wpAny_throw ?_))
    refine wpAny_bind (wpAny_isInstance (T := "StopIteration") (b := true) ⟨_, Heap.get?_push_size _ rfl, rfl⟩ isSubtype_stop ?_)
    exact wpAny_pure (hQ _ ((k1.extBut.push _).push _))
end
end Sk


/-! combinations: as an iterator of the walks. -/
namespace Sk
open PySem PySem.Spec PyProof.Rows L2
def Itc (L : List (List Nat)) : It := ⟨fun i _ => i < L.length, fun i H v H' => ∃ (T : Addr) (a : List Nat), v = .ref T ∧ H T = none ∧ H' = upd H T (.tup (vN a)) ∧ L[i]? = some a, fun i _ => L.length ≤ i⟩
theorem vals_ints {items : Array Value} {n : Nat} (hi : Ints items n) : ∀ {b : List Nat}, (∀ x ∈ b, x < n) → Vals (vN b) (b.map fun i => items.getD i .none)
  | [], _ => .nil
  | x :: b, h => by
    obtain ⟨t, e⟩ := hi.2 x (h x List.mem_cons_self)
    exact .cons (show RelV (.int (x : Int)) (items.getD x .none) from ⟨t, e⟩) (vals_ints hi fun y hy => h y (List.mem_cons_of_mem _ hy))
theorem turn_comb {P : Program} {w : World} {K : PySem.W.Frag} {tg : Expr} {z pool : Addr} {items : Array Value} {n : Nat} {L : List (List Nat)} (C : CombOk n L) (hi : Ints items n) (pz : pool ≠ z) :
    Turn P w K tg (Itc L) [z, pool] z (fun i h => h.get? pool = some (tupO items) ∧ ∃ (res : Value) (a : List Nat), L[i - 1]? = some a ∧ h.get? z = some (combO pool (if i = 0 then 0 else 1) res a)) where
  mem := by simp
  obj := fun i h st c hc => by
    obtain ⟨hp, res, a, _, hz⟩ := st
    have e' : c = z ∨ c = pool := by simpa using hc
    rcases e' with q | q
    · rw [q]; exact ⟨_, hz, fun v q => nomatch q⟩
    · rw [q]; exact ⟨_, hp, fun v q => nomatch q⟩
  keep := fun i h h' st k => by
    obtain ⟨hp, res, a, ea, hz⟩ := st
    exact ⟨k pool (by simp) _ hp, res, a, ea, k z (by simp) _ hz⟩
  item := by
    intro X hP hw hK hc i pins s σ H E I hf st hg
    subst hP hw hK
    obtain ⟨hp, res, a, ea, hz⟩ := st
    have hg : i < L.length := hg
    have eb : L[i]? = some L[i] := List.getElem?_eq_getElem hg
    obtain ⟨sm, lt⟩ := C.small _ (List.getElem_mem hg)
    have hn : ((if i = 0 then (0 : Int) else 1) = 0 ∧ L[i] = a) ∨ ((if i = 0 then (0 : Int) else 1) = 1 ∧ nextC items.size a = some L[i]) := by
      by_cases q : i = 0
      · subst q
        refine .inl ⟨if_pos rfl, ?_⟩
        rw [eb] at ea
        exact Option.some.inj ea
      · refine .inr ⟨if_neg q, ?_⟩
        rw [hi.1]
        exact C.step (i - 1) a _ ea (by rw [show i - 1 + 1 = i by omega]; exact eb)
    have hzl : z < s.heap.objs.size := Heap.lt_size hz
    have hpl : pool < s.heap.objs.size := Heap.lt_size hp
    refine comb_item hz hp pz sm hn fun h' z' t' k' => ?_
    refine ⟨_, rfl, go_of (s := { s with heap := h' }) (n := "itertools.combinations") z' rfl rfl (by decide) ?_⟩
    have new : ObjOk X.prog X.w (upd H s.heap.objs.size (.tup (vN L[i]))) h' s.heap.objs.size (.tup (vN L[i])) :=
      ⟨by unfold vN; rw [List.length_map, sizeLine_eq]; omega, _, vals_ints hi lt, ⟨_, t', rfl, _, rfl⟩⟩
    have I1 : L2.Inv X pins σ (upd H s.heap.objs.size (.tup (vN L[i]))) { s with heap := h' } :=
      I.turnedNew (t' := s.toks) (ch := [z, pool]) (fun c o hb q => k' c o (fun q' => hb (by simp [q'])) q) hf (Nat.le_refl _) new
    refine ⟨.ref s.heap.objs.size, _, I1, rfl, ⟨_, L[i], rfl, I.hok.fresh (Nat.le_refl _), rfl, eb⟩, ⟨k' pool _ pz hp, _, L[i], eb, z'⟩, fun c hcm => ?_⟩
    have hlt : c < s.heap.objs.size := by
      have e' : c = z ∨ c = pool := by simpa using hcm
      rcases e' with q | q
      · rw [q]; exact hzl
      · rw [q]; exact hpl
    rw [upd_ne (Nat.ne_of_lt hlt)]
    exact (hf c hcm).1
  done := by
    intro X hP hw hK hc i pins s σ H E I hf st hg
    subst hP hw hK
    obtain ⟨hp, res, a, ea, hz⟩ := st
    have hg : L.length ≤ i := hg
    have l0 : L.length ≠ 0 := fun q => C.ne (List.length_eq_zero_iff.mp q)
    have li := (List.getElem?_eq_some_iff.mp ea).1
    have ei : i - 1 = L.length - 1 := by omega
    rw [if_neg (show ¬ i = 0 by omega)] at hz
    obtain ⟨f0, f1, f2, f3, f4, f5⟩ := hf z (by simp)
    exact comb_end (I.ok.hd hc) hz hp (by rw [hi.1]; exact C.last a (by rw [← ei]; exact ea)) fun h' k => ⟨rfl, I.turned (t' := s.toks) (fun b o hb q => k b o hb q) f0 f1 f3 f4 f5⟩
  self := fun A i s Q E st h => by
    obtain ⟨hp, res, a, ea, hz⟩ := st
    exact pyIter_comb hz h
end Sk


/-! combinations: made. -/
namespace Sk
open PySem PySem.Spec PyProof.Rows L2
theorem plain_comb_new : plainId "itertools.combinations.__new__" = true := by decide +kernel
section
variable {prog : Program} {w : World} {A : Around} {E : Value → Shared → Prop} {s : Shared} {r : Addr} {b : Int} {t u v : Tok} {n k : Nat} {tk : Tok}
theorem code_comb_new {Q₁ : Value → Shared → Prop} (hh : A.handled = none) (hr : IsRange s.heap r 0 b 1 t u v) (hsmall : Builtin.Range.small 0 b 1 = true) (hn : Builtin.Range.rangeSize 0 b 1 = n) (hlen : n ≤ 100) (hk : k ≤ n)
    (h : ∀ (h' : Heap) (tk' : Nat) (acc : Array Value), (∀ b o, s.heap.get? b = some o → h'.get? b = some o) → ItemsOf (fun i v => ∃ t, v = .int (0 + i * 1) t) acc n →
      Q₁ (.ref (h'.objs.size + 1)) { s with heap := (h'.push (tupO acc)).push (combO h'.objs.size 0 .none (List.range k)), toks := tk' }) :
    codeAny (model prog w) A (.call (.builtin "itertools.combinations.__new__") ⟨[.type "itertools.combinations", .ref r, .int (k : Int) tk], []⟩) (wants Q₁ E) s := by
  refine codeAny_of_tree ?_
  show wpAny _ A.in1 (do checkBuiltinCall "itertools.combinations.__new__" ⟨[.type "itertools.combinations", .ref r, .int (k : Int) tk], []⟩; again (.builtin "itertools.combinations.__new__" ⟨[.type "itertools.combinations", .ref r, .int (k : Int) tk], []⟩)) _ _ s
  refine wpAny_bind (wpAny_of_eq (newCall_comb _ _) (wpAny_pure ⟨plainId_quiet plain_comb_new _, codeAny_builtin entry_comb_new ?_⟩))
  rw [Around.under_plainId plain_comb_new _]
  have hsub : isSubtype (.type "itertools.combinations") (.type ("itertools." ++ "combinations")) = pure true := by
    rw [show (("itertools." : String) ++ "combinations") = "itertools.combinations" from by decide +kernel]
    exact sub_comb
  have hTI : s.TypeIs (.ref r) "range" := ⟨_, hr, rfl⟩
  have hh1 : A.in1.handled = none := hh
  wp_walk using collect_range (A := A.in1) hh1 hr hsmall hn (Nat.le_trans hlen (by decide))
  have k1 : ¬ ((k : Int) < -2 ^ 63) := by omega
  have k2 : ¬ ((k : Int) ≥ 2 ^ 63) := by omega
  rw [if_neg (by rw [decide_eq_false k1, decide_eq_false k2]; decide)]
  refine wpAny_pure ?_
  refine wpAny_bind (collect_range (A := A.in1) hh1 hr hsmall hn (Nat.le_trans hlen (by decide)) fun h' tk' acc hkp hi => ?_)
  have al : acc.toList.length = n := by rw [Array.length_toList]; exact hi.1
  show wpAny _ _ (if (k : Int) < 0 then _ else _) _ _ _
  rw [if_neg (by omega)]
  show wpAny _ _ (if Builtin.Itertools.itTooMany (k : Int) = true then _ else _) _ _ _
  rw [if_neg (by unfold Builtin.Itertools.itTooMany; simp; omega)]
  refine wpAny_bind (wpAny_newTuple ?_ (by rw [al, sizeLine_eq]; omega))
  refine wpAny_pure ?_
  show wpAny _ _ (Builtin.Itertools.itNewRecord (.type "itertools.combinations") _ >>= _) _ _ _
  refine wpAny_bind ?_
  unfold Builtin.Itertools.itNewRecord
  rw [if_pos (show (!typeHasDict (.type "itertools.combinations")) = true by kernel_rfl)]
  refine wpAny_newObj_type ?_ ?_
  · refine wpAny_pure ?_
    have e : ([Value.ref h'.objs.size, rawInt (if (k : Int).toNat > acc.toList.length then 2 else 0), Value.none] ++ (List.range (k : Int).toNat).map fun (i : Nat) => rawInt i).toArray = #[Value.ref h'.objs.size, rawInt 0, .none] ++ (idxV (List.range k)).toArray := by
      rw [al, Int.toNat_natCast, if_neg (by omega)]
      unfold idxV
      simp
    have z := h h' tk' acc hkp hi
    have e2 : (h'.push (tupO acc)).objs.size = h'.objs.size + 1 := Heap.size_push ..
    have e3 : acc.toList.toArray = acc := by simp
    show Q₁ (.ref (h'.push { cls := .type "tuple", data := .seq acc.toList.toArray }).objs.size) { s with heap := (h'.push { cls := .type "tuple", data := .seq acc.toList.toArray }).push { cls := .type "itertools.combinations", data := .fields ([Value.ref h'.objs.size, rawInt (if (k : Int).toNat > acc.toList.length then 2 else 0), Value.none] ++ (List.range (k : Int).toNat).map fun (i : Nat) => rawInt i).toArray }, toks := tk' }
    rw [e, e3, e2]
    exact z
  · simp only [sizeOk, List.size_toArray, List.length_append, List.length_map, List.length_range, Int.toNat_natCast, List.length_cons, List.length_nil, sizeLine_eq]
    omega
theorem call_comb {Q : Value → Shared → Prop} (hh : A.handled = none) (hr : IsRange s.heap r 0 b 1 t u v) (hsmall : Builtin.Range.small 0 b 1 = true) (hn : Builtin.Range.rangeSize 0 b 1 = n) (hlen : n ≤ 100) (hk : k ≤ n)
    (hQ : ∀ (h' : Heap) (tk' : Nat) (acc : Array Value), (∀ b o, s.heap.get? b = some o → h'.get? b = some o) → ItemsOf (fun i v => ∃ t, v = .int (0 + i * 1) t) acc n →
      Q (.ref (h'.objs.size + 1)) { s with heap := (h'.push (tupO acc)).push (combO h'.objs.size 0 .none (List.range k)), toks := tk' }) :
    wpAny (model prog w) A (call (.type "itertools.combinations") [.ref r, .int (k : Int) tk]) Q E s := by
  refine callType_codes (Q₁ := fun obj s₁ => s₁.TypeIs obj "itertools.combinations" ∧ Q obj s₁) called_comb (typeCall_comb _ _) F.entry_object_init
    (code_comb_new (A := A.in1) hh hr hsmall hn hlen hk fun h' tk acc hk hacc => ⟨⟨_, by rw [← Heap.size_push (h := h') (o := tupO acc)]; exact Heap.get?_push_size _ rfl, rfl⟩, hQ h' tk acc hk hacc⟩) fun obj s₁ h₁ => ?_
  exact ⟨h₁.1, F.args_object_init_3 obj _ _, object_init_meets called_comb.init.lookup called_comb.made (by decide) prog w A.in1 _ s₁ ⟨h₁.1, rfl, h₁.2⟩⟩
end
section
variable {X : Cx} {tg : Expr}
/-- range(n) as a value -/
def rRange1 : List V → Hp → VK → Prop := fun vs H Q => ∃ j, vs = [V.int j] ∧ ∀ p, H p = none → Q (.ref p) (upd H p (.rng 0 j))
theorem call_range1 : CallR X (.type "range") rRange1 := by
  intro pins s σ H vs us Q I r h
  obtain ⟨j, rfl, q⟩ := h
  cases r with
  | cons r rr =>
    cases rr
    obtain ⟨t, rfl⟩ := r
    refine call_range_1 ⟨.ref s.heap.objs.size, upd H s.heap.objs.size (.rng 0 j), I.laid (t' := s.toks + 2) (fun b o e => Heap.get?_push_of_some _ e) (Nat.le_refl _) ?_, rfl, q _ (I.hok.fresh (Nat.le_refl _))⟩
    exact ⟨_, _, _, Heap.get?_push_size _ rfl⟩
def iComb (ta : TA) : TI := fun σ H R => ta σ H fun vs H1 => ∃ (a : Addr) (n k : Nat) (L : List (List Nat)), vs = [.ref a, .int (k : Int)] ∧ H1 a = some (.rng 0 (n : Int)) ∧ n ≤ 100 ∧ k ≤ n ∧ CombOk n L ∧ L[0]? = some (List.range k) ∧ R (Itc L) H1
theorem pi_comb {e e2 : Expr} {ta : TA} {p pos : Pos} (hc : X.calm = true) (hg : Gl X "combinations") (hm : X.mg "combinations" = some (.type "itertools.combinations")) (ha : PA X [e, e2] ta)
    (hs : starEach [e, e2] X.env = (false, eval e X.env) :: starEach [e2] X.env := by rfl) (hpl : (backTo pos (starEach [e2] X.env)).any (·.1) = false := by rfl) :
    PI X tg (.Call (.Name "combinations" p) [e, e2] [] pos) (iComb ta) := by
  refine ⟨fun pins s σ H R I h => ?_⟩
  refine Call_ (ld_glob I hg hm (PyProof.Rows.callWith_type1 (thn (ha.run pos pins s σ H _ I h) fun us s1 ⟨vs, H1, I1, r1, q1⟩ => ?_) hs hpl))
  obtain ⟨a, n, k, L, ex, hA, n1, kn, C, l0, q⟩ := q1
  subst ex
  cases r1 with
  | cons r rr =>
    cases rr with
    | cons r' rr =>
      cases rr
      cases r
      obtain ⟨tk, rfl⟩ := r'
      obtain ⟨t, u, v, ho⟩ := I1.hok a _ hA
      refine call_comb (I1.ok.hd hc) (show IsRange s1.heap a 0 (n : Int) 1 t u v from ho) (small_one (by omega) (by omega) (by omega) (by omega)) (n := n) (by rw [rangeSize_one]; split <;> omega) n1 kn fun h' tk' acc hk hi => ?_
      have sz : (h'.push (tupO acc)).objs.size = h'.objs.size + 1 := Heap.size_push ..
      have hp : ((h'.push (tupO acc)).push (combO h'.objs.size 0 .none (List.range k))).get? h'.objs.size = some (tupO acc) := Heap.get?_push_of_some _ (Heap.get?_push_size _ rfl)
      have hz : ((h'.push (tupO acc)).push (combO h'.objs.size 0 .none (List.range k))).get? (h'.objs.size + 1) = some (combO h'.objs.size 0 .none (List.range k)) := by
        rw [← sz]
        exact Heap.get?_push_size _ rfl
      have hk2 : ∀ b o, s1.heap.get? b = some o → ((h'.push (tupO acc)).push (combO h'.objs.size 0 .none (List.range k))).get? b = some o := fun b o z => Heap.get?_push_of_some _ (Heap.get?_push_of_some _ (hk b o z))
      refine pyIter_comb hz ?_
      have I2 : L2.Inv X pins σ H1 { s1 with heap := (h'.push (tupO acc)).push (combO h'.objs.size 0 .none (List.range k)), toks := tk' } := I1.kept hk2
      have isI : Ints acc n := ⟨hi.1, fun i hin => by
        have la : i < acc.size := by rw [hi.1]; exact hin
        have ea : acc[i]? = some acc[i] := Array.getElem?_eq_getElem la
        obtain ⟨t, et⟩ := hi.2 i _ ea
        refine ⟨t, ?_⟩
        rw [show acc.getD i .none = acc[i] by simp [Array.getD, la], et]
        simp⟩
      have I3 : L2.Inv X pins σ H1 { s1 with heap := h', toks := tk' } := I1.kept hk
      refine ⟨h'.objs.size + 1, [h'.objs.size + 1, h'.objs.size], _, Itc L, H1, rfl, I2, turn_comb C isI (Nat.ne_of_lt (Nat.lt_succ_self _)), ⟨hp, .none, List.range k, l0, hz⟩, fun b hb => ?_, q⟩
      have hb2 : b = h'.objs.size + 1 ∨ b = h'.objs.size := by simpa using hb
      have hle2 : h'.objs.size ≤ b := by
        rcases hb2 with e | e
        · rw [e]; exact Nat.le_succ _
        · rw [e]; exact Nat.le_refl _
      exact I3.fpOk hle2 (I3.hok.fresh hle2)
end
end Sk


/-! least_marks. -/
namespace Sk
open PySem PySem.Spec PyProof.Rows L2
def combL : Nat → Nat → List (List Nat)
  | 2, 1 => [[0], [1]]
  | 3, 1 => [[0], [1], [2]]
  | 3, 2 => [[0, 1], [0, 2], [1, 2]]
  | _, _ => [[]]
theorem comb_ok {n k : Nat} (n3 : n ≤ 3) (kn : k < n) : CombOk n (combL n k) ∧ (combL n k)[0]? = some (List.range k) ∧ (∀ a ∈ combL n k, a.Pairwise (· < ·) ∧ (∀ x ∈ a, x < n) ∧ a.length = k) := by
  have mk : ∀ {L : List (List Nat)}, L ≠ [] → (∀ i < L.length, ∀ a, L[i]? = some a → nextC n a = L[i + 1]?) → (∀ a ∈ L, a.length ≤ 100 ∧ ∀ x ∈ a, x < n) → CombOk n L := fun {L} h1 h2 h3 => by
    refine ⟨h1, fun i a b ea eb => ?_, fun a ea => ?_, h3⟩
    · rw [h2 i (List.getElem?_eq_some_iff.mp ea).1 a ea, eb]
    · have li := (List.getElem?_eq_some_iff.mp ea).1
      rw [h2 _ li a ea]
      exact List.getElem?_eq_none (by omega)
  have cases6 : (n = 1 ∧ k = 0) ∨ (n = 2 ∧ k = 0) ∨ (n = 2 ∧ k = 1) ∨ (n = 3 ∧ k = 0) ∨ (n = 3 ∧ k = 1) ∨ (n = 3 ∧ k = 2) := by omega
  have one : ∀ {L : List (List Nat)} {a : List Nat} {i : Nat}, L[i]? = some a → a = L.getD i [] := fun {L a i} h => by simp [List.getD, h]
  rcases cases6 with ⟨rfl, rfl⟩ | ⟨rfl, rfl⟩ | ⟨rfl, rfl⟩ | ⟨rfl, rfl⟩ | ⟨rfl, rfl⟩ | ⟨rfl, rfl⟩
  all_goals
    refine ⟨mk (by decide) (fun i hi a ha => ?_) (by decide), by decide, by decide⟩
    rw [one ha]
    clear ha
    revert i
    decide
/-- the marks in their order -/
def allHs (n : Nat) : List (List Nat) := (List.range n).flatMap (combL n) ++ [List.range n]
/-- the first by which nothing is stale -/
def FirstM (xs : List Int) (ps : List (List Deed)) (hs : List Nat) : Prop := ∃ l r, allHs ps.length = l ++ hs :: r ∧ FreshR (.marks hs) xs ps ∧ ∀ h ∈ l, ¬ FreshR (.marks h) xs ps
/-- a loop over combinations -/
theorem for_comb {L : List (List Nat)} {g : TG} {tb : TS} {D : Ends} {σ : L2.St} {H : Hp} (Pv : Nat → L2.St → Hp → Prop) (h0 : Pv 0 σ H)
    (hs : ∀ (i : Nat) (a : List Nat) (T : Addr) (σ : L2.St) (H : Hp), L[i]? = some a → Pv i σ H → H T = none → g (.ref T) σ (upd H T (.tup (vN a))) fun σ2 H2 => tb { D with nx := Pv (i + 1), ct := Pv (i + 1), bk := D.nx } σ2 H2) (hd : ∀ σ H, Pv L.length σ H → D.nx σ H) :
    ∃ W : Nat → Nat → L2.St → Hp → Prop, (∃ m, W 0 m σ H) ∧ ∀ i m σ H, W i m σ H →
      ((Itc L).stop i H ∧ D.nx σ H) ∨ ((Itc L).go i H ∧ ∃ N : L2.St → Hp → Prop, (∀ σ' H', N σ' H' → ∃ m', m' < m ∧ W (i + 1) m' σ' H') ∧ ∀ v H', (Itc L).yld i H v H' → g v σ H' fun σ2 H2 => tb { D with nx := N, ct := N, bk := D.nx } σ2 H2) := by
  refine ⟨fun i m σ H => m = L.length - i ∧ i ≤ L.length ∧ Pv i σ H, ⟨L.length, rfl, Nat.zero_le _, h0⟩, ?_⟩
  rintro i m σ H ⟨rfl, hi, p⟩
  by_cases hlt : i < L.length
  · refine .inr ⟨hlt, Pv (i + 1), fun σ' H' p' => ⟨L.length - (i + 1), by omega, rfl, hlt, p'⟩, fun v H' y => ?_⟩
    obtain ⟨T, a, rfl, nT, rfl, ea⟩ := y
    exact hs i a T σ H ea p nT
  · have e : i = L.length := by omega
    subst e
    exact .inl ⟨Nat.le_refl _, hd σ H p⟩
def spLeast (K : PySem.W.Frag) : Sp := fun vs H Q _ => ∃ (a p : Addr) (xs : List Int) (ps : List (List Deed)), vs = [.ref a, .ref p] ∧ SqL K H a (xs.map V.int) ∧ FitV xs ∧ Progs K H p ps ∧ Fit ps ∧
  (∀ hs, (Rule.marks hs).fit ps.length → safeB (.marks hs) ps = false → MayB ps → GoodS (.marks hs) (plainPs ps) (S0of xs.length ps) 253) ∧
  ∀ (T : Addr) (H' : Hp) (hs : List Nat), Same H H' → H' T = some (.tup (vN hs)) → FirstM xs ps hs → Q (.ref T) H'
section
variable {P : Program} {w : World} {K : PySem.W.Frag} {mg : Str → Option Value} {base : Heap}
theorem scLeast : FnScope ["values", "programs", "many", "hands"] ["values", "programs"] (defScope s_least_marks) := ⟨rfl, rfl, rfl, by decide +kernel, rfl, by decide +kernel, by decide +kernel⟩
theorem cal_least {pp : Addr} (S : TxSt K mg) (TK : TxK K mg) (SE : TxSe K mg) (TS : TxS K mg) (TT : TxT K mg) (TC : TxC mg) (Dw : DefAt K mg "without_value" s_without_value) (TP : TxPop K mg pp) (D : DefAt K mg "least_marks" s_least_marks) (hcm : mg "combinations" = some (.type "itertools.combinations")) (htu : mg "tuple" = none) : C8.Cal P w K mg base 8 "least_marks" (spLeast K) [] := by
  obtain ⟨f, fd, F, g⟩ := D.ex
  have T : TxBu mg := ⟨SE.len, htu, SE.range, S.enumerate⟩
  have c_check_pile_and_programs : C8.Cal P w K mg base 5 "check_pile_and_programs" (spChkVP K) [] := cal_check_pile_and_programs TK
  have c_first_stale : C8.Cal P w K mg base 7 "first_stale" (spFirstFull K) [] := cal_first_full S SE TS TT TC Dw TP (cal_may S TP)
  refine cal_of F g (F.bindsN fun _ _ _ _ _ _ us hl => match us, hl with | [_, _], _ => rfl) (fok F scLeast (fun vs H Q E h => ?_) (fun cdv A outer s0 H vs Q E hr h => ?_))
  · obtain ⟨a, p, xs, ps, rfl, _⟩ := h
    rfl
  · obtain ⟨a, p, xs, ps, rfl, hv, fv, pg, ft, good, fin⟩ := h
    refine ⟨_, (pss_cons
    (ps_expr (C8.pe_c c_check_pile_and_programs hr (by decide) (by rfl) (pa_cons (pv 0) (pa_cons (pv 1) pa_nil)))) (pss_cons
    (ps_for PassesOwn.never rfl (pi_range1 (by rfl) T.range (pa_cons (pe_callB call_len_seq (by rfl) T.len PySem.boot_len (pa_cons (pv 1) pa_nil)) pa_nil)) (pg_name (i := 2) scLeast.nd rfl (.inl rfl)) (pss_one (ps_for PassesOwn.never rfl (pi_comb (by rfl) (by rfl) hcm (pa_cons (pe_callTy (r := rRange1) call_range1 (by rfl) T.range boot_range (pa_cons (pe_callB call_len_seq (by rfl) T.len PySem.boot_len (pa_cons (pv 1) pa_nil)) pa_nil)) (pa_cons (pv 2) pa_nil))) (pg_name (i := 3) scLeast.nd rfl (.inl rfl)) (pss_one (ps_if (pt_cmpR op_isN (C8.pe_c c_first_stale hr (by decide) (by rfl) (pa_cons (pe_callB call_len_seq (by rfl) T.len PySem.boot_len (pa_cons (pv 0) pa_nil)) (pa_cons (pv 1) (pa_cons (pe_tup (pa_cons pe_str (pa_cons (pv 3) pa_nil))) pa_nil)))) pe_non (nomark _)) (pss_one (ps_ret (pv 3))) pss_nil))))) (pss_one
    (ps_ret (pe_tupRg rfl (by rfl) T.tuple (prg_1 (by rfl) T.range (pe_callB call_len_seq (by rfl) T.len PySem.boot_len (pa_cons (pv 1) pa_nil)))))))), ?_⟩
    refine ⟨_, rfl, _, rfl, a, p, xs, ps, rfl, hv, fv, pg, ft, fun H1 s1 => ?_⟩
    have n3 := ft.2.1
    have n1 := ft.1
    have fv1 := fv.1
    obtain ⟨ls, pl, pq⟩ := pg.same s1
    have ll := paired_len pq
    have lv : (ls.map V.ref).length = ps.length := by rw [List.length_map, ll]
    refine ⟨_, rfl, p, _, rfl, .inl (SqL.of pl), _, rfl, by rw [lv]; omega, by rw [lv]; omega, ?_⟩
    rw [lv, Int.toNat_natCast]
    refine for_range (fun k σ H2 => (∃ u v : Option V, σ = [some (.ref a), some (.ref p), u, v]) ∧ Same H1 H2 ∧ ∀ h ∈ (List.range k).flatMap (combL ps.length), ¬ FreshR (.marks h) xs ps) ⟨⟨none, none, rfl⟩, .refl _, fun h z => by cases z⟩ ?_ ?_
    · rintro k σ H2 hk ⟨⟨u, v, rfl⟩, s2, no⟩
      rw [Int.zero_add]
      obtain ⟨C, l0, cp⟩ := comb_ok n3 hk
      refine ⟨_, rfl, p, _, rfl, .inl (SqL.of (s2 _ _ pl)), _, rfl, fun Rg nRg => ?_⟩
      rw [lv]
      have sR := same_upd (o := .rng 0 (ps.length : Int)) nRg
      refine ⟨_, rfl, Rg, ps.length, k, combL ps.length k, rfl, upd_same, by omega, by omega, C, l0, ?_⟩
      have s2R := s2.trans sR
      generalize upd H2 Rg (.rng 0 (ps.length : Int)) = H3 at s2R ⊢
      refine for_comb (L := combL ps.length k) (fun i σ H => (∃ u : Option V, σ = [some (.ref a), some (.ref p), some (.int (k : Int)), u]) ∧ Same H1 H ∧ ∀ j h, j < i → (combL ps.length k)[j]? = some h → ¬ FreshR (.marks h) xs ps) ⟨⟨_, rfl⟩, s2R, fun j h z => absurd z (Nat.not_lt_zero j)⟩ ?_ ?_
      · rintro i hs T σ H4 ea ⟨⟨u, rfl⟩, s4, no2⟩ nT
        have sT := same_upd (o := .tup (vN hs)) nT
        have s14 := s1.trans (s4.trans sT)
        have eT : upd H4 T (.tup (vN hs)) T = some (.tup (vN hs)) := upd_same
        have s4T := s4.trans sT
        obtain ⟨c1, c2, c3⟩ := cp hs (List.mem_of_getElem? ea)
        have rf : (Rule.marks hs).fit ps.length := ⟨c1, c2⟩
        generalize upd H4 T (.tup (vN hs)) = H5 at s14 eT s4T ⊢
        refine ⟨_, rfl, a, _, rfl, .inl (s14.seq hv), _, rfl, _, rfl, by show 2 ≤ sizeLine; decide, fun tr ntr => ?_⟩
        have sM := same_upd (o := .tup [V.str "marks", .ref T]) ntr
        have ru : RuleAt (upd H5 tr (.tup [V.str "marks", .ref T])) tr (.marks hs) := ⟨T, upd_same, sM _ _ eT⟩
        have eT6 := sM _ _ eT
        have s6 := s14.trans sM
        have s4M := s4T.trans sM
        generalize upd H5 tr (.tup [V.str "marks", .ref T]) = H6 at ru eT6 s6 s4M ⊢
        refine ⟨xs.length, p, tr, ps, .marks hs, by rw [List.length_map]; rfl, by omega, pg.same s6, ft, ru, fit_pos rf, good hs rf, fun H7 s7 h => ?_, fun D5 H7 T' u j s7 nD5 h1 h2 h3 h4 h5 h6 => ?_⟩
        · have fresh : FreshR (.marks hs) xs ps := none_stale ft rf h
          refine ⟨rfl, _, rfl, iteT ⟨_, rfl, fin T H7 hs (s6.trans s7) (s7 _ _ eT6) ?_⟩⟩
          have eL : combL ps.length k = (combL ps.length k).take i ++ hs :: (combL ps.length k).drop (i + 1) := by
            have li := (List.getElem?_eq_some_iff.mp ea).1
            have ei := (List.getElem?_eq_some_iff.mp ea).2
            rw [← ei, ← List.drop_eq_getElem_cons li, List.take_append_drop]
          have eR : (List.range ps.length).flatMap (combL ps.length) = (List.range k).flatMap (combL ps.length) ++ (combL ps.length k ++ ((List.range (ps.length - k - 1)).map (k + 1 + ·)).flatMap (combL ps.length)) := by
            have e1 : List.range ps.length = List.range k ++ k :: (List.range (ps.length - k - 1)).map (k + 1 + ·) := by
              have e2 : ps.length = k + (1 + (ps.length - k - 1)) := by omega
              conv => lhs; rw [e2]
              rw [List.range_add, List.range_add]
              simp [Nat.add_assoc]
            rw [e1, List.flatMap_append, List.flatMap_cons]
          refine ⟨(List.range k).flatMap (combL ps.length) ++ (combL ps.length k).take i, (combL ps.length k).drop (i + 1) ++ ((List.range (ps.length - k - 1)).map (k + 1 + ·)).flatMap (combL ps.length) ++ [List.range ps.length], ?_, fresh, fun h hh => ?_⟩
          · unfold allHs
            rw [eR]
            conv => lhs; rw [eL]
            simp
          · rcases List.mem_append.mp hh with q | q
            · exact no h q
            · obtain ⟨j, hj⟩ := List.getElem?_of_mem q
              have lj := (List.getElem?_eq_some_iff.mp hj).1
              rw [List.length_take] at lj
              rw [List.getElem?_take_of_lt (by omega)] at hj
              exact no2 j h (by omega) hj
        · have SW := some_stale ft h1 h2 h3 h4 h5
          refine ⟨rfl, _, rfl, iteF ⟨⟨_, rfl⟩, s4M.trans s7, fun j' h' hj' eh => ?_⟩⟩
          by_cases q : j' = i
          · subst q
            rw [ea] at eh
            cases Option.some.inj eh
            intro z
            have l := SW.last
            rw [z (u ++ [j]) SW.low] at l
            cases l
          · exact no2 j' h' (by omega) eh
      · rintro σ H4 ⟨⟨u, rfl⟩, s4, no2⟩
        refine ⟨⟨_, _, rfl⟩, s4, fun h hh => ?_⟩
        rw [List.range_succ, List.flatMap_append] at hh
        rcases List.mem_append.mp hh with q | q
        · exact no h q
        · rw [List.flatMap_cons, List.flatMap_nil, List.append_nil] at q
          obtain ⟨j, hj⟩ := List.getElem?_of_mem q
          exact no2 j h (List.getElem?_eq_some_iff.mp hj).1 hj
    · rintro σ H2 ⟨⟨u, v, rfl⟩, s2, no⟩
      refine ⟨_, rfl, p, _, rfl, .inl (SqL.of (s2 _ _ pl)), _, rfl, RgOk.of_le (by decide) (by rw [lv]; omega) (by decide) (by rw [lv]; omega), fun q nq => ?_⟩
      rw [lv, ← rg_nat] at *
      refine fin q _ (List.range ps.length) (s1.trans (s2.trans (same_upd nq))) upd_same ⟨(List.range ps.length).flatMap (combL ps.length), [], rfl, fun w _ => never_stale (r := .marks (List.range ps.length)) (fun i hi => List.mem_range.mpr hi) xs w, no⟩
end
end Sk


/-! Two hands of few deeds, piles of up to three values: gone through. -/
namespace Sk
open PySem PySem.Spec PyProof.Rows L2
theorem few_done : (fewMax.all fun b => (List.range 4).all fun n => okCase 5 n b) = true := by decide +kernel
theorem few_good {ps : List (List Deed)} {n : Nat} (hn : n ≤ 3) (hb : bits ps ∈ fewAll) (mb : MayB ps) : ∃ b, preB (bits ps) b = true ∧ okCase 5 n b = true := by
  obtain ⟨m, h1, h2⟩ := few_max _ hb (mayBits_of mb)
  exact ⟨m, h2, List.all_eq_true.mp (List.all_eq_true.mp few_done m h1) n (List.mem_range.mpr (by omega))⟩
end Sk


namespace Sk
open PySem PySem.Spec PyProof.Rows L2
def spNexts (K : PySem.W.Frag) (Cm : Addr) : Sp := fun vs H Q _ => ∃ (L : ML) (r : Rule) (s : Mach), vs = [.ref L.m] ∧ MacAt K H Cm r L s ∧ ∀ D H', Same H H' → H D = none → H' D = some (.lst (vN s.links)) → Q (.ref D) H'
def spFree (K : PySem.W.Frag) (Cm : Addr) : Sp := fun vs H Q _ => ∃ (L : ML) (r : Rule) (s : Mach), vs = [.ref L.m] ∧ MacAt K H Cm r L s ∧ ∀ D H', Same H H' → H D = none → H' D = some (.lst (vN s.free)) → Q (.ref D) H'
section
variable {P : Program} {w : World} {K : PySem.W.Frag} {mg : Str → Option Value} {base : Heap} {Cm : Addr}
theorem scNexts : FnScope ["self"] ["self"] (defScope s_Machine_nexts) := ⟨rfl, rfl, rfl, by decide +kernel, rfl, by decide +kernel, by decide +kernel⟩
theorem met_nexts (T : TxM K mg Cm) (D : MethAt K Cm "nexts" "Machine.nexts" s_Machine_nexts) : C8.Met P w K mg base 1 Cm "nexts" (spNexts K Cm) [] := by
  obtain ⟨f, fd, F, M⟩ := D.ex
  have C := T.S.c
  refine met_of F T.cl M (F.bindsN fun _ _ _ _ _ _ us hl => match us, hl with | [_], _ => rfl) (fok F scNexts (fun vs H Q E h => ?_) (fun cdv A outer s0 H vs Q E hr h => ?_))
  · obtain ⟨L, r, s, rfl, _⟩ := h
    rfl
  · obtain ⟨L, r, s, rfl, M, fin⟩ := h
    refine ⟨_, (pss_one (ps_ret (pe_callTy call_list_of (by rfl) T.list (by decide +kernel) (pa_cons (pe_ix ix_tup (pe_fld (pv 0) rfl) (pe_num (n := 2) rfl C.NEXTS) (fun _ _ => rfl)) pa_nil)))), ?_⟩
    obtain ⟨a, e1, n, fr, v, hh, e0, en, ef, ev, eh⟩ := M.ins
    exact ⟨_, rfl, L.m, _, L.dx, _, _, rfl, e1, T.cl, T.nS, f_state, a, _, 2, _, rfl, rfl, SqT.of e0, rfl, n, _, rfl, .inr (SqT.of en), fun D nD => fin D _ (same_upd nD) nD upd_same⟩
theorem scFree : FnScope ["self"] ["self"] (defScope s_Machine_free) := ⟨rfl, rfl, rfl, by decide +kernel, rfl, by decide +kernel, by decide +kernel⟩
theorem met_free (T : TxM K mg Cm) (D : MethAt K Cm "free" "Machine.free" s_Machine_free) : C8.Met P w K mg base 1 Cm "free" (spFree K Cm) [] := by
  obtain ⟨f, fd, F, M⟩ := D.ex
  have C := T.S.c
  refine met_of F T.cl M (F.bindsN fun _ _ _ _ _ _ us hl => match us, hl with | [_], _ => rfl) (fok F scFree (fun vs H Q E h => ?_) (fun cdv A outer s0 H vs Q E hr h => ?_))
  · obtain ⟨L, r, s, rfl, _⟩ := h
    rfl
  · obtain ⟨L, r, s, rfl, M, fin⟩ := h
    refine ⟨_, (pss_one (ps_ret (pe_callTy call_list_of (by rfl) T.list (by decide +kernel) (pa_cons (pe_ix ix_tup (pe_fld (pv 0) rfl) (pe_num (n := 3) rfl C.FREE) (fun _ _ => rfl)) pa_nil)))), ?_⟩
    obtain ⟨a, e1, n, fr, v, hh, e0, en, ef, ev, eh⟩ := M.ins
    exact ⟨_, rfl, L.m, _, L.dx, _, _, rfl, e1, T.cl, T.nS, f_state, a, _, 3, _, rfl, rfl, SqT.of e0, rfl, fr, _, rfl, .inr (SqT.of ef), fun D nD => fin D _ (same_upd nD) nD upd_same⟩
end
end Sk


namespace Sk
open PySem PySem.Spec PyProof.Rows L2
def spTop (K : PySem.W.Frag) (Cm : Addr) : Sp := fun vs H Q _ => ∃ (L : ML) (r : Rule) (s : Mach), vs = [.ref L.m] ∧ MacAt K H Cm r L s ∧ ∀ t H', Same H H' → H' t = some (.tup [.int (s.top : Int), .int (s.count : Int)]) → Q (.ref t) H'
def spMarked (K : PySem.W.Frag) (Cm : Addr) : Sp := fun vs H Q _ => ∃ (L : ML) (r : Rule) (s : Mach) (i : Nat) (h : Hand), vs = [.ref L.m, .int (i : Int)] ∧ MacAt K H Cm r L s ∧ s.hands[i]? = some h ∧ Q (.int (h.mark : Int)) H
section
variable {P : Program} {w : World} {K : PySem.W.Frag} {mg : Str → Option Value} {base : Heap} {Cm : Addr}
theorem scTopNow : FnScope ["self"] ["self"] (defScope s_Machine_top_now) := ⟨rfl, rfl, rfl, by decide +kernel, rfl, by decide +kernel, by decide +kernel⟩
theorem met_top_now (T : TxM K mg Cm) (D : MethAt K Cm "top_now" "Machine.top_now" s_Machine_top_now) : C8.Met P w K mg base 1 Cm "top_now" (spTop K Cm) [] := by
  obtain ⟨f, fd, F, M⟩ := D.ex
  have C := T.S.c
  refine met_of F T.cl M (F.bindsN fun _ _ _ _ _ _ us hl => match us, hl with | [_], _ => rfl) (fok F scTopNow (fun vs H Q E h => ?_) (fun cdv A outer s0 H vs Q E hr h => ?_))
  · obtain ⟨L, r, s, rfl, _⟩ := h
    rfl
  · obtain ⟨L, r, s, rfl, M, fin⟩ := h
    refine ⟨_, (pss_one (ps_ret (pe_tup (pa_cons (pe_ix ix_tup (pe_fld (pv 0) rfl) (pe_num (n := 0) rfl C.TOP) (fun _ _ => rfl)) (pa_cons (pe_ix ix_tup (pe_fld (pv 0) rfl) (pe_num (n := 1) rfl C.COUNT) (fun _ _ => rfl)) pa_nil))))), ?_⟩
    obtain ⟨a, e1, n, fr, v, hh, e0, en, ef, ev, eh⟩ := M.ins
    exact ⟨_, rfl, L.m, _, L.dx, _, _, rfl, e1, T.cl, T.nS, f_state, a, _, 0, _, rfl, rfl, SqT.of e0, rfl, _, rfl, L.m, _, L.dx, _, _, rfl, e1, T.cl, T.nS, f_state, a, _, 1, _, rfl, rfl, SqT.of e0, rfl, by show 2 ≤ sizeLine; decide, fun t nt => fin t _ (same_upd nt) upd_same⟩
theorem scMarked : FnScope ["self", "hand"] ["self", "hand"] (defScope s_Machine_marked) := ⟨rfl, rfl, rfl, by decide +kernel, rfl, by decide +kernel, by decide +kernel⟩
theorem met_marked (T : TxM K mg Cm) (D : MethAt K Cm "marked" "Machine.marked" s_Machine_marked) : C8.Met P w K mg base 2 Cm "marked" (spMarked K Cm) [] := by
  obtain ⟨f, fd, F, M⟩ := D.ex
  have C := T.S.c
  have m_check_hand : C8.Met P w K mg base 1 Cm "check_hand" (spCheckHand K Cm) [] := met_check_hand T
  refine met_of F T.cl M (F.bindsN fun _ _ _ _ _ _ us hl => match us, hl with | [_, _], _ => rfl) (fok F scMarked (fun vs H Q E h => ?_) (fun cdv A outer s0 H vs Q E hr h => ?_))
  · obtain ⟨L, r, s, i, h, rfl, _⟩ := h
    rfl
  · obtain ⟨L, r, s, i, h, rfl, M, hi, fin⟩ := h
    refine ⟨_, (pss_cons
    (ps_expr (C8.pe_mt m_check_hand hr (by decide) (pv 0) (pa_cons (pv 1) pa_nil))) (pss_one
    (ps_ret (pe_ix ix_tup (pe_ix ix_tup (pe_ix ix_tup (pe_fld (pv 0) rfl) (pe_num (n := 5) rfl C.HANDS) (fun _ _ => rfl)) (pv 1) (fun _ _ => rfl)) (pe_num (n := 6) rfl C.MARK) (fun _ _ => rfl))))), ?_⟩
    obtain ⟨a, e1, st⟩ := M.ins
    obtain ⟨ls, p1, p2⟩ := id M.pg
    have lsl := paired_len p2
    rw [List.length_map] at lsl
    have il := (List.getElem?_eq_some_iff.mp hi).1
    obtain ⟨n, fr, v, hh, as, t, e0, en, ef, ev, eh, pr, et, ex⟩ := st.hand (show s.ps.hands[i]? = some h.ph by show (s.hands.map Hand.ph)[i]? = _; rw [List.getElem?_map, hi]; rfl)
    refine ⟨_, rfl, L.m, L.dx, _, rfl, e1, f_none (by decide +kernel), _, rfl, L.m, L.dx, L.P, L.R, a, L.An, L.De, s.stale, i, ls, rfl, e1, p1, by omega, ?_⟩
    rw [← ph_mark] at fin
    exact ⟨_, rfl, L.m, _, L.dx, _, _, rfl, e1, T.cl, T.nS, f_state, a, _, 5, _, rfl, rfl, SqT.of e0, rfl, _, rfl, hh, _, (i : Int), .ref t, rfl, rfl, SqT.of eh, at_ref et, t, _, 6, _, rfl, rfl, SqT.of ex, rfl, fin⟩
end
end Sk


/-! All that is told of a case. -/
namespace Sk
open PySem PySem.Spec PyProof.Rows L2
theorem few_lenT : ∀ b ∈ fewAll, (b.map List.length).sum ≤ 5 := by decide +kernel
theorem bits_totT (ps : List (List Deed)) : ((bits ps).map List.length).sum = total ps := by
  unfold bits total
  rw [List.map_map]
  congr 1
  exact List.map_congr_left fun l _ => List.length_map ..
theorem CaseM.good {K : PySem.W.Frag} {Cm va pa rl W : Addr} {H : Hp} {L : ML} {xs : List Int} {ps : List (List Deed)} {r : Rule} {ws : List Nat} {s : Mach} (C : CaseM K Cm H va pa rl W L xs ps r ws s) {q : Rule} (rq : q.fit ps.length) (hs : safeB q ps = false) (mb : MayB ps) : GoodS q (plainPs ps) (S0of xs.length ps) 253 := by
  obtain ⟨b, b1, b2⟩ := few_good (n := xs.length) C.x3 C.hb mb
  exact good_ok C.ft C.fv rq hs (by rw [← bits_totT]; exact few_lenT _ C.hb) b1 b2
/-- what stale tells, as data -/
def StaleD (r : Rule) (xs : List Int) (ps : List (List Deed)) (d : PyData) : Prop := (d = .none ∧ FreshR r xs ps) ∨ ∃ u i, d = natsD (u ++ [i]) ∧ StaleW r xs ps u i
theorem StaleD.one {r : Rule} {xs : List Int} {ps : List (List Deed)} {d d' : PyData} (h3 : ps.length ≤ 3) (x : StaleD r xs ps d) (y : StaleD r xs ps d') : d = d' := by
  rcases x with ⟨rfl, f⟩ | ⟨u, i, rfl, S⟩
  · rcases y with ⟨rfl, _⟩ | ⟨u, i, rfl, S⟩
    · rfl
    · have l := S.last
      rw [f _ S.low] at l
      cases l
  · rcases y with ⟨rfl, f⟩ | ⟨v, j, rfl, T⟩
    · have l := S.last
      rw [f _ S.low] at l
      cases l
    · have a := S.rank v j T.low T.ahead T.last
      have b := T.rank u i S.low S.ahead S.last
      rw [rk_inj (fun d hd => by have := S.low d hd; omega) (fun d hd => by have := T.low d hd; omega) (Nat.le_antisymm a b)]
theorem first_uniq {α : Type} {P : α → Prop} {a b : α} {r r' : List α} : ∀ {l l' : List α}, l ++ a :: r = l' ++ b :: r' → P a → P b → (∀ x ∈ l, ¬ P x) → (∀ x ∈ l', ¬ P x) → a = b
  | [], [], e, _, _, _, _ => (List.cons.inj e).1
  | [], y :: l', e, pa, _, _, n => by
    have e1 : a = y := (List.cons.inj e).1
    subst e1
    exact absurd pa (n _ List.mem_cons_self)
  | y :: l, [], e, _, pb, n, _ => by
    have e1 : y = b := (List.cons.inj e).1
    subst e1
    exact absurd pb (n _ List.mem_cons_self)
  | y :: l, z :: l', e, pa, pb, n, n' => first_uniq (List.cons.inj e).2 pa pb (fun x hx => n x (List.mem_cons_of_mem _ hx)) fun x hx => n' x (List.mem_cons_of_mem _ hx)
theorem FirstM.one {xs : List Int} {ps : List (List Deed)} {a b : List Nat} (x : FirstM xs ps a) (y : FirstM xs ps b) : a = b := by
  obtain ⟨l, r, e, f, n⟩ := x
  obtain ⟨l', r', e', f', n'⟩ := y
  exact first_uniq (P := fun h => FreshR (.marks h) xs ps) (e.symm.trans e') f f' n n'
theorem rise_one : ∀ {a b : List Nat}, a.Pairwise (· < ·) → b.Pairwise (· < ·) → (∀ m, m ∈ a ↔ m ∈ b) → a = b
  | [], [], _, _, _ => rfl
  | [], y :: b, _, _, h => by have := (h y).mpr List.mem_cons_self; cases this
  | x :: a, [], _, _, h => by have := (h x).mp List.mem_cons_self; cases this
  | x :: a, y :: b, p, q, h => by
    obtain ⟨p1, p2⟩ := List.pairwise_cons.mp p
    obtain ⟨q1, q2⟩ := List.pairwise_cons.mp q
    have e : x = y := by
      rcases List.mem_cons.mp ((h x).mp List.mem_cons_self) with z | z
      · exact z
      · rcases List.mem_cons.mp ((h y).mpr List.mem_cons_self) with z2 | z2
        · exact z2.symm
        · have := q1 x z
          have := p1 y z2
          omega
    subst e
    rw [rise_one p2 q2 fun m => ?_]
    constructor
    · intro hm
      rcases List.mem_cons.mp ((h m).mp (List.mem_cons_of_mem _ hm)) with z | z
      · have := p1 m hm
        omega
      · exact z
    · intro hm
      rcases List.mem_cons.mp ((h m).mpr (List.mem_cons_of_mem _ hm)) with z | z
      · have := q1 m hm
        omega
      · exact z
def itemsD (xs : List Int) (ps : List (List Deed)) (r : Rule) (ws : List Nat) (s : Mach) (d1 : List Deed) (h0 h1 : Hand) (dst : PyData) (ms hs : List Nat) : List PyData :=
  [serD xs d1, toldD (play r (Mach.begun xs ps) ws).1, wholeD (wholeM r (Mach.begun xs ps) ws), dst, natsD (ms.take 3), natsT hs, .list (h0.said.map ansD), .list (h1.said.map ansD), endsD s.ends, natsD s.links, natsD s.free, natsD s.pile, intsD s.worth, pairD (s.top, s.count), .int (h0.mark : Int), .bool s.done]
/-- what is told of a case, as data -/
def TD (xs : List Int) (ps : List (List Deed)) (r : Rule) (ws : List Nat) (s : Mach) (d : PyData) : Prop := ∃ (d1 : List Deed) (h0 h1 : Hand) (dst : PyData) (ms hs : List Nat), ps[1]? = some d1 ∧ s.hands = [h0, h1] ∧ StaleD r xs ps dst ∧ ms.Pairwise (· < ·) ∧ (∀ m, m ∈ ms ↔ 1 ≤ m ∧ m ≤ 15 ∧ FreshR (.counts m) xs ps) ∧ FirstM xs ps hs ∧ d = .list (itemsD xs ps r ws s d1 h0 h1 dst ms hs)
theorem TD.one {xs : List Int} {ps : List (List Deed)} {r : Rule} {ws : List Nat} {s : Mach} {d d' : PyData} (h3 : ps.length ≤ 3) (x : TD xs ps r ws s d) (y : TD xs ps r ws s d') : d = d' := by
  obtain ⟨d1, h0, h1, dst, ms, hs, a1, a2, a3, a4, a5, a6, rfl⟩ := x
  obtain ⟨e1, g0, g1, est, ns, gs, b1, b2, b3, b4, b5, b6, rfl⟩ := y
  have c1 := Option.some.inj (a1.symm.trans b1)
  have c2 := a2.symm.trans b2
  injection c2 with c2 c3
  injection c3 with c3 _
  have c4 := a3.one h3 b3
  have c5 : ms = ns := rise_one a4 b4 fun m => by rw [a5, b5]
  have c6 := a6.one b6
  subst c1 c2 c3 c4 c5 c6
  rfl
def spTold11 (K : PySem.W.Frag) (Cm : Addr) : Sp := fun vs H Q _ => ∃ (t va pa rl W : Addr) (L : ML) (xs : List Int) (ps : List (List Deed)) (r : Rule) (ws : List Nat) (s : Mach), vs = [.ref t] ∧ H t = some (.tup [.ref va, .ref pa, .ref rl, .ref W, .ref L.m]) ∧ CaseM K Cm H va pa rl W L xs ps r ws s ∧
  ∀ (v : V) (d : PyData) (as : List Addr) (H' : Hp), Same H H' → TD xs ps r ws s d → Piece K H H' 6 v d as → Q v H'
structure TxR11 (K : PySem.W.Frag) (mg : Str → Option Value) : Prop where
  st : DefAt K mg "stale" s_stale
  fs : DefAt K mg "first_stale" s_first_stale
  sr : DefAt K mg "is_safe_rule" s_is_safe_rule
  mb : DefAt K mg "may_be_stale" s_may_be_stale
  se : DefAt K mg "search" s_search
  wt : DefAt K mg "weaving_to" s_weaving_to
  wv : DefAt K mg "without_value" s_without_value
  sc : DefAt K mg "safe_counts" s_safe_counts
  lm : DefAt K mg "least_marks" s_least_marks
  sum : mg "sum" = none
  len : mg "len" = none
  enumerate : mg "enumerate" = none
  any : mg "any" = none
  range : mg "range" = none
  tuple : mg "tuple" = none
theorem TxR11.toSt {K : PySem.W.Frag} {mg : Str → Option Value} (T : TxR11 K mg) : TxSt K mg := ⟨T.st, T.fs, T.sr, T.mb, T.sum, T.len, T.enumerate, T.any⟩
theorem TxR11.toSe {K : PySem.W.Frag} {mg : Str → Option Value} (T : TxR11 K mg) : TxSe K mg := ⟨T.se, T.wt, T.len, T.range⟩
section
variable {P : Program} {w : World} {K : PySem.W.Frag} {mg : Str → Option Value} {base : Heap} {Cm : Addr}
theorem scTold11 : FnScope ["_law_case_here", "_law_values_here", "_law_programs_here", "_law_rule_here", "_law_weaving_here", "_law_machine", "_law_found"] ["_law_case_here"] (defScope sTold) := ⟨rfl, rfl, rfl, by decide +kernel, rfl, by decide +kernel, by decide +kernel⟩
theorem cal_told11 (TM : TxM K mg Cm) (D : DefAt K mg "_law_told" sTold) (Dp1 : DefAt K mg "played" s_played) (Dw : DefAt K mg "whole" s_whole) (TSr : TxSr K mg) (Mn : MethAt K Cm "nexts" "Machine.nexts" s_Machine_nexts) (Mf : MethAt K Cm "free" "Machine.free" s_Machine_free)
    (Mt : MethAt K Cm "top_now" "Machine.top_now" s_Machine_top_now) (Mm : MethAt K Cm "marked" "Machine.marked" s_Machine_marked) (TR : TxR11 K mg) (hcm : mg "combinations" = some (.type "itertools.combinations")) : C8.Cal P w K mg base 10 "_law_told" (spTold11 K Cm) [] := by
  obtain ⟨f, fd, F, g⟩ := D.ex
  obtain ⟨pp, TP⟩ := TM.S.pop
  have m_is_done : C8.Met P w K mg base 1 Cm "is_done" (spIsDone K Cm) [] := met_is_done TM
  have m_answers : C8.Met P w K mg base 2 Cm "answers" (spAnswers K Cm) [] := met_answers TM
  have m_order : C8.Met P w K mg base 1 Cm "order" (spOrder K Cm) [] := met_order TM
  have m_pile : C8.Met P w K mg base 1 Cm "pile" (spPileM K Cm) [] := met_pile TM
  have m_pile_values : C8.Met P w K mg base 2 Cm "pile_values" (spPileV K Cm) [] := met_pile_values TM
  have m_nexts : C8.Met P w K mg base 1 Cm "nexts" (spNexts K Cm) [] := met_nexts TM Mn
  have m_free : C8.Met P w K mg base 1 Cm "free" (spFree K Cm) [] := met_free TM Mf
  have m_top_now : C8.Met P w K mg base 1 Cm "top_now" (spTop K Cm) [] := met_top_now TM Mt
  have m_marked : C8.Met P w K mg base 2 Cm "marked" (spMarked K Cm) [] := met_marked TM Mm
  have c_serial : C8.Cal P w K mg base 4 "serial" (spSer K) [] := cal_serial TSr TM.K
  have c_played : C8.Cal P w K mg base 9 "played" (spPlayed K) [] := cal_played TM Dp1
  have c_whole : C8.Cal P w K mg base 9 "whole" (spWhole K) [] := cal_whole TM Dw
  have c_stale : C8.Cal P w K mg base 8 "stale" (spStale1 K) [] := cal_weak (fun _ _ _ _ h => stale1_to h) (cal_stale_full TR.toSt TM.K TR.toSe TM.S TM.T TM.S.c TR.wv TP)
  have c_safe_counts : C8.Cal P w K mg base 8 "safe_counts" (spSafeCounts K) [] := cal_safe_counts TR.toSt TM.K TR.toSe TM.S TM.T TM.S.c TR.wv TP TR.sc
  have c_least_marks : C8.Cal P w K mg base 8 "least_marks" (spLeast K) [] := cal_least TR.toSt TM.K TR.toSe TM.S TM.T TM.S.c TR.wv TP TR.lm hcm TR.tuple
  refine cal_of F g (F.bindsN fun _ _ _ _ _ _ us hl => match us, hl with | [_], _ => rfl) (fok F scTold11 (fun vs H Q E h => ?_) (fun cdv A outer s0 H vs Q E hr h => ?_))
  · obtain ⟨t, va, pa, rl, W, L, xs, ps, r, ws, s, rfl, _⟩ := h
    rfl
  · obtain ⟨t, va, pa, rl, W, L, xs, ps, r, ws, s, rfl, ett, C, fin⟩ := h
    refine ⟨_, (pss_cons
    (ps_asg (pv 0) (pg_tup (by rfl) (pgs_cons (pg_name (i := 1) scTold11.nd rfl (.inl rfl)) (pgs_cons (pg_name (i := 2) scTold11.nd rfl (.inl rfl)) (pgs_cons (pg_name (i := 3) scTold11.nd rfl (.inl rfl)) (pgs_cons (pg_name (i := 4) scTold11.nd rfl (.inl rfl)) (pgs_cons (pg_name (i := 5) scTold11.nd rfl (.inl rfl)) pgs_nil))))))) (pss_cons
    (ps_set (i := 6) scTold11.nd rfl (.inl rfl) (pe_lst (pa_cons (C8.pe_c c_serial hr (by decide) (by rfl) (pa_cons (pv 1) (pa_cons (pe_ix ix_list (pv 2) pe_int (fun _ _ => rfl)) pa_nil))) (pa_cons (C8.pe_c c_played hr (by decide) (by rfl) (pa_cons (pv 1) (pa_cons (pv 2) (pa_cons (pv 3) (pa_cons (pv 4) pa_nil))))) pa_nil)))) (pss_cons
    (ps_set (i := 6) scTold11.nd rfl (.inl rfl) (pe_op op_cat (pv 6) (pe_lst (pa_cons (C8.pe_c c_whole hr (by decide) (by rfl) (pa_cons (pv 1) (pa_cons (pv 2) (pa_cons (pv 3) (pa_cons (pv 4) pa_nil))))) (pa_cons (C8.pe_c c_stale hr (by decide) (by rfl) (pa_cons (pv 1) (pa_cons (pv 2) (pa_cons (pv 3) pa_nil)))) pa_nil))))) (pss_cons
    (ps_set (i := 6) scTold11.nd rfl (.inl rfl) (pe_op op_cat (pv 6) (pe_lst (pa_cons (pe_slice sl_list (C8.pe_c c_safe_counts hr (by decide) (by rfl) (pa_cons (pv 1) (pa_cons (pv 2) pa_nil))) po_none (po_some pe_int)) (pa_cons (C8.pe_c c_least_marks hr (by decide) (by rfl) (pa_cons (pv 1) (pa_cons (pv 2) pa_nil))) pa_nil))))) (pss_cons
    (ps_set (i := 6) scTold11.nd rfl (.inl rfl) (pe_op op_cat (pv 6) (pe_lst (pa_cons (C8.pe_mt m_answers hr (by decide) (pv 5) (pa_cons pe_int pa_nil)) (pa_cons (C8.pe_mt m_answers hr (by decide) (pv 5) (pa_cons pe_int pa_nil)) (pa_cons (C8.pe_mt0 m_order hr (by decide) (pv 5)) (pa_cons (C8.pe_mt0 m_nexts hr (by decide) (pv 5)) (pa_cons (C8.pe_mt0 m_free hr (by decide) (pv 5)) pa_nil)))))))) (pss_one
    (ps_ret (pe_op op_cat (pv 6) (pe_lst (pa_cons (C8.pe_mt0 m_pile hr (by decide) (pv 5)) (pa_cons (C8.pe_mt0 m_pile_values hr (by decide) (pv 5)) (pa_cons (C8.pe_mt0 m_top_now hr (by decide) (pv 5)) (pa_cons (C8.pe_mt m_marked hr (by decide) (pv 5) (pa_cons pe_int pa_nil)) (pa_cons (C8.pe_mt0 m_is_done hr (by decide) (pv 5)) pa_nil)))))))))))))), ?_⟩
    have x3 := C.x3
    have wl := C.wl
    have n3 := C.ft.2.1
    obtain ⟨d0, d1, e01⟩ : ∃ a b, ps = [a, b] := by
      match ps, C.p2 with
      | [a, b], _ => exact ⟨a, b, rfl⟩
    have ed1 : ps[1]? = some d1 := by rw [e01]; rfl
    obtain ⟨h0, h1, ehs⟩ : ∃ a b, s.hands = [a, b] := by
      match s.hands, C.h2 with
      | [a, b], _ => exact ⟨a, b, rfl⟩
    have eh0 : s.hands[0]? = some h0 := by rw [ehs]; rfl
    have eh1 : s.hands[1]? = some h1 := by rw [ehs]; rfl
    obtain ⟨nO, OK, nl⟩ := C.ok
    obtain ⟨b1, b2, b3, b4⟩ := OK.bnd.few
    have b5 := OK.bnd.len
    have b6 := pile_len OK.bnd
    have sa0 := b4 h0 (List.mem_of_getElem? eh0)
    have sa1 := b4 h1 (List.mem_of_getElem? eh1)
    have an0 := OK.ans h0 (List.mem_of_getElem? eh0)
    have an1 := OK.ans h1 (List.mem_of_getElem? eh1)
    obtain ⟨ls, pl, pq⟩ := C.pg
    obtain ⟨l1, el1, ts1, t1, t2⟩ := paired_get pq ed1
    have d1l := (C.ft.2.2 d1 (List.mem_of_getElem? ed1))
    have okp : ∀ st ∈ (play r (Mach.begun xs ps) ws).1, st.Ok := play_ok n3 C.wb
    have lp := play_len (r := r) (s := Mach.begun xs ps) (w := ws)
    obtain ⟨mW, mWl, OW⟩ := Okm.whole (r := r) (xs := xs) (ws := ws) n3 fun ds hd => (C.ft.2.2 ds hd).1
    refine ⟨_, rfl, t, _, rfl, SqT.of ett, rfl, _, _, rfl, _, _, rfl, _, _, rfl, _, _, rfl, _, _, rfl, rfl, ?_⟩
    have A0 : Acc K H H 5 [] [] [] := Acc.nil (.refl H)
    -- serial, played
    refine ⟨_, rfl, _, rfl, pa, _, _, .ref l1, rfl, rfl, SqL.of pl, at_ref el1, va, l1, xs, ts1, d1, rfl, SqL.of C.va, C.fv, SqL.of t1, t2, by omega, d1l.2, fun t3 A B H1 s1 nt nA nB AB et eA eB => ?_⟩
    have A1 := A0.add s1 (Piece.ser nA nB AB et eA eB (by omega))
    have C1 := C.same s1
    refine ⟨_, rfl, _, rfl, _, rfl, _, rfl, va, pa, rl, W, xs, ps, r, ws, rfl, C1.given, SqL.of C1.we, C.wb, by omega, fun D2 H2 s2 nD2 td2 => ⟨by show 2 ≤ sizeLine; decide, fun F1 nF1 => ?_⟩⟩
    have A2 := A1.add s2 (Piece.told nD2 td2 (by rw [lp]; omega) okp)
    have s3 := same_upd (o := .lst [V.ref t3, .ref D2]) nF1
    have eF1 : upd H2 F1 (.lst [V.ref t3, .ref D2]) F1 = some (.lst [V.ref t3, .ref D2]) := upd_same
    have A2 := A2.same s3
    have C3 := C1.same (s2.trans s3)
    generalize upd H2 F1 (.lst [V.ref t3, .ref D2]) = H3 at eF1 A2 C3 ⊢
    clear A0 A1 C1 et eA eB td2 t2 t1 pq
    -- whole, stale
    refine ⟨_, rfl, _, rfl, _, rfl, _, rfl, _, rfl, va, pa, rl, W, xs, ps, r, ws, rfl, C3.given, SqL.of C3.we, C.wb, by omega, fun t4 H4 s4 wh => ?_⟩
    obtain ⟨asW, pW⟩ := Piece.whole (K := K) wh OW (by omega)
    have A3 := A2.add s4 pW
    have C4 := C3.same s4
    refine ⟨_, rfl, _, rfl, _, rfl, va, pa, rl, xs, ps, r, rfl, C4.given, C.good C.rf, fun v5 H5 s5 O5 => ⟨by show 2 ≤ sizeLine; decide, fun G1 nG1 => ?_⟩⟩
    obtain ⟨dst, asS, TS, pS⟩ : ∃ d as, StaleD r xs ps d ∧ Piece K H4 H5 5 v5 d as := by
      rcases O5 with ⟨rfl, no⟩ | ⟨D5, u, i, rfl, nD5, eD5, S⟩
      · exact ⟨_, _, .inl ⟨rfl, no⟩, .non⟩
      · exact ⟨_, _, .inr ⟨u, i, rfl, S⟩, .nats nD5 eD5 (by have := S.short; rw [List.length_append]; show u.length + 1 ≤ 10000; omega)⟩
    have A4 := A3.add s5 pS
    have sG := same_upd (o := .lst [V.ref t4, v5]) nG1
    refine ⟨F1, G1, _, _, rfl, rfl, (s4.trans (s5.trans sG)) _ _ eF1, upd_same, by show 2 + 2 ≤ sizeLine; decide, fun F2 nF2 => ?_⟩
    have sF := same_upd (o := .lst ([V.ref t3, .ref D2] ++ [V.ref t4, v5])) nF2
    have eF2 : upd (upd H5 G1 (.lst [V.ref t4, v5])) F2 (.lst ([V.ref t3, .ref D2] ++ [V.ref t4, v5])) F2 = some (.lst [V.ref t3, .ref D2, .ref t4, v5]) := upd_same
    have A4 := A4.same (sG.trans sF)
    have C6 := C4.same (s5.trans (sG.trans sF))
    clear sG sF
    generalize upd (upd H5 G1 (.lst [V.ref t4, v5])) F2 (.lst ([V.ref t3, .ref D2] ++ [V.ref t4, v5])) = H6 at eF2 A4 C6 ⊢
    clear A3 A2 C3 C4 wh pW pS O5 nG1 nF2 eF1 nF1
    -- safe_counts, least_marks
    refine ⟨_, rfl, _, rfl, _, rfl, va, pa, xs, ps, rfl, SqL.of C6.va, C.fv, C6.pg, C.ft, fun m m1 m15 hs mb => C.good ⟨m1, m15⟩ hs mb, fun D7 H7 ms s7 nD7 eD7 pw7 mm7 => ⟨3, rfl, D7, _, rfl, SqL.of eD7, fun D8 nD8 => ?_⟩⟩
    have ec : cutV (vN ms) none (some (3 : Int)) = vN (ms.take 3) := by
      unfold cutV
      rw [HT.sIx_none, show (some (3 : Int)) = some ((3 : Nat) : Int) from rfl, HT.sIx_nat, List.drop_zero, Nat.sub_zero]
      unfold vN
      rw [← List.map_take, List.length_map]
      congr 1
      rw [List.take_eq_take_iff]
      omega
    rw [ec]
    have s8 := same_upd (o := .lst (vN (ms.take 3))) nD8
    have eD8 : upd H7 D8 (.lst (vN (ms.take 3))) D8 = some (.lst (vN (ms.take 3))) := upd_same
    have s78 := s7.trans s8
    have n8 := none_back s7 nD8
    generalize upd H7 D8 (.lst (vN (ms.take 3))) = H8 at eD8 s78 ⊢
    have A5 := A4.add s78 (Piece.nats n8 eD8 (by rw [List.length_take]; omega))
    have C8 := C6.same s78
    refine ⟨_, rfl, _, rfl, va, pa, xs, ps, rfl, SqL.of C8.va, C.fv, C8.pg, C.ft, fun hs rf' hsf mb => C.good rf' hsf mb, fun T9 H9 hs s9 eT9 F9 => ⟨by show 2 ≤ sizeLine; decide, fun G2 nG2 => ?_⟩⟩
    have hsl : hs.length ≤ 3 := by
      obtain ⟨l, r', e, _⟩ := F9
      have all : ∀ h ∈ allHs 2, h.length ≤ 3 := by decide +kernel
      rw [C.p2] at e
      exact all hs (by rw [e]; exact List.mem_append_right _ List.mem_cons_self)
    have A6 := A5.add s9 (Piece.natsT eT9 (by omega))
    have sG := same_upd (o := .lst [V.ref D8, .ref T9]) nG2
    refine ⟨F2, G2, _, _, rfl, rfl, (s78.trans (s9.trans sG)) _ _ eF2, upd_same, by show 4 + 2 ≤ sizeLine; decide, fun F3 nF3 => ?_⟩
    have sF := same_upd (o := .lst ([V.ref t3, .ref D2, .ref t4, v5] ++ [V.ref D8, .ref T9])) nF3
    have eF3 : upd (upd H9 G2 (.lst [V.ref D8, .ref T9])) F3 (.lst ([V.ref t3, .ref D2, .ref t4, v5] ++ [V.ref D8, .ref T9])) F3 = some (.lst [V.ref t3, .ref D2, .ref t4, v5, .ref D8, .ref T9]) := upd_same
    have A6 := A6.same (sG.trans sF)
    have C9 := C8.same (s9.trans (sG.trans sF))
    clear sG sF
    generalize upd (upd H9 G2 (.lst [V.ref D8, .ref T9])) F3 (.lst ([V.ref t3, .ref D2, .ref t4, v5] ++ [V.ref D8, .ref T9])) = H10 at eF3 A6 C9 ⊢
    clear A5 A4 C6 C8 eD7 eD8 eT9 nG2 nF3 eF2 s78 s8 s9 s7
    -- answers, order, nexts, free
    obtain ⟨a1, e1, _⟩ := C9.M.ins
    refine ⟨_, rfl, _, rfl, L.m, L.dx, _, rfl, e1, f_none (by decide +kernel), L, r, s, 0, h0, rfl, C9.M, eh0, fun q1 H11 s11 nq1 eq1 => ?_⟩
    have A7 := A6.add s11 (Piece.anss nq1 eq1 (by omega) an0)
    have C11 := C9.same s11
    obtain ⟨a2, e2, _⟩ := C11.M.ins
    refine ⟨_, rfl, L.m, L.dx, _, rfl, e2, f_none (by decide +kernel), L, r, s, 1, h1, rfl, C11.M, eh1, fun q2 H12 s12 nq2 eq2 => ?_⟩
    have A8 := A7.add s12 (Piece.anss nq2 eq2 (by omega) an1)
    have C12 := C11.same s12
    obtain ⟨a3, e3, _⟩ := C12.M.ins
    refine ⟨_, rfl, L.m, L.dx, _, rfl, e3, f_none (by decide +kernel), L, r, s, rfl, C12.M, fun q3 H13 s13 nq3 eq3 => ?_⟩
    have A9 := A8.add s13 (Piece.ends nq3 eq3 (by omega))
    have C13 := C12.same s13
    obtain ⟨a4, e4, _⟩ := C13.M.ins
    refine ⟨_, rfl, L.m, L.dx, _, rfl, e4, f_none (by decide +kernel), L, r, s, rfl, C13.M, fun q4 H14 s14 nq4 eq4 => ?_⟩
    have A10 := A9.add s14 (Piece.nats nq4 eq4 (by omega))
    have C14 := C13.same s14
    obtain ⟨a5, e5, _⟩ := C14.M.ins
    refine ⟨_, rfl, L.m, L.dx, _, rfl, e5, f_none (by decide +kernel), L, r, s, rfl, C14.M, fun q5 H15 s15 nq5 eq5 => ⟨by show 5 ≤ sizeLine; decide, fun G3 nG3 => ?_⟩⟩
    have A11 := A10.add s15 (Piece.nats nq5 eq5 (by omega))
    have sG := same_upd (o := .lst [V.ref q1, .ref q2, .ref q3, .ref q4, .ref q5]) nG3
    have sAll := s11.trans (s12.trans (s13.trans (s14.trans (s15.trans sG))))
    refine ⟨F3, G3, _, _, rfl, rfl, sAll _ _ eF3, upd_same, by show 6 + 5 ≤ sizeLine; decide, fun F4 nF4 => ?_⟩
    have sF := same_upd (o := .lst ([V.ref t3, .ref D2, .ref t4, v5, .ref D8, .ref T9] ++ [V.ref q1, .ref q2, .ref q3, .ref q4, .ref q5])) nF4
    have eF4 : upd (upd H15 G3 (.lst [V.ref q1, .ref q2, .ref q3, .ref q4, .ref q5])) F4 (.lst ([V.ref t3, .ref D2, .ref t4, v5, .ref D8, .ref T9] ++ [V.ref q1, .ref q2, .ref q3, .ref q4, .ref q5])) F4 = some (.lst [V.ref t3, .ref D2, .ref t4, v5, .ref D8, .ref T9, .ref q1, .ref q2, .ref q3, .ref q4, .ref q5]) := upd_same
    have A11 := A11.same (sG.trans sF)
    have C15 := C14.same (s15.trans (sG.trans sF))
    clear sG sF
    generalize upd (upd H15 G3 (.lst [V.ref q1, .ref q2, .ref q3, .ref q4, .ref q5])) F4 (.lst ([V.ref t3, .ref D2, .ref t4, v5, .ref D8, .ref T9] ++ [V.ref q1, .ref q2, .ref q3, .ref q4, .ref q5])) = H16 at eF4 A11 C15 ⊢
    clear A6 A7 A8 A9 A10 C9 C11 C12 C13 C14 sAll nG3 nF4 eF3
    -- pile, pile_values, top_now, marked, is_done
    obtain ⟨a6, e6, _⟩ := C15.M.ins
    refine ⟨_, rfl, _, rfl, L.m, L.dx, _, rfl, e6, f_none (by decide +kernel), L, r, nO, s, rfl, C15.M, OK.bnd, by omega, fun q6 H17 s17 nq6 eq6 => ?_⟩
    have A12 := A11.add s17 (Piece.nats nq6 eq6 (by omega))
    have C17 := C15.same s17
    obtain ⟨a7, e7, _⟩ := C17.M.ins
    refine ⟨_, rfl, L.m, L.dx, _, rfl, e7, f_none (by decide +kernel), L, r, nO, s, rfl, C17.M, OK.bnd, by omega, fun q7 H18 s18 nq7 eq7 => ?_⟩
    have A13 := A12.add s18 (Piece.ints nq7 eq7 (by unfold Mach.worth; rw [List.length_map]; omega))
    have C18 := C17.same s18
    obtain ⟨a8, e8, _⟩ := C18.M.ins
    refine ⟨_, rfl, L.m, L.dx, _, rfl, e8, f_none (by decide +kernel), L, r, s, rfl, C18.M, fun q8 H19 s19 eq8 => ?_⟩
    have A14 := A13.add s19 (Piece.pair (p := (s.top, s.count)) eq8)
    have C19 := C18.same s19
    obtain ⟨a9, e9, _⟩ := C19.M.ins
    refine ⟨_, rfl, L.m, L.dx, _, rfl, e9, f_none (by decide +kernel), L, r, s, 0, h0, rfl, C19.M, eh0, ?_⟩
    have A15 := A14.add (.refl _) (Piece.int (K := K) (F := H19) (H := H19) (n := 4) (h0.mark : Int))
    refine ⟨_, rfl, L.m, L.dx, _, rfl, e9, f_none (by decide +kernel), L, r, s, rfl, C19.M, fun H20 s20 => ⟨by show 5 ≤ sizeLine; decide, fun G4 nG4 => ?_⟩⟩
    have A16 := A15.add s20 (Piece.bl (K := K) (F := H19) (H := H20) (n := 4) s.done)
    have sG := same_upd (o := .lst [V.ref q6, .ref q7, .ref q8, .int (h0.mark : Int), .bl s.done]) nG4
    have sAll := s17.trans (s18.trans (s19.trans (s20.trans sG)))
    refine ⟨F4, G4, _, _, rfl, rfl, sAll _ _ eF4, upd_same, by show 11 + 5 ≤ sizeLine; decide, fun F5 nF5 => ?_⟩
    have A16 := A16.same sG
    have sF := same_upd (o := .lst ([V.ref t3, .ref D2, .ref t4, v5, .ref D8, .ref T9, .ref q1, .ref q2, .ref q3, .ref q4, .ref q5] ++ [V.ref q6, .ref q7, .ref q8, .int (h0.mark : Int), .bl s.done])) nF5
    have pc := A16.done (D := F5) sF nF5 upd_same (by show 16 ≤ 10000; decide)
    exact fin _ _ _ _ (A16.s.trans sF) ⟨d1, h0, h1, dst, ms, hs, ed1, ehs, TS, pw7, mm7, F9, rfl⟩ pc
end
end Sk


namespace Sk
open PySem PySem.Spec PyProof.Rows L2
def spLaw (K : PySem.W.Frag) : Sp := fun vs H Q _ => ∃ (a : Addr) (ns : List Int), vs = [.ref a] ∧ SqL K H a (ns.map V.int) ∧ ∀ H', Q (.bl true) H'
theorem keeps_spoil {H4 H5 H6 : Hp} {as : List Addr} (l : ∀ a ∈ as, ∃ l, H4 a = some (.lst l)) (s : Same H4 H5) (c : Chg as H5 H6) : KeepsN noneA H4 H5 H6 :=
  ⟨fun x xs e => c x _ (fun m => by
    obtain ⟨l, q⟩ := l x m
    have q := s _ _ q
    rw [e] at q
    cases q) e, fun a o _ n e => c a o (fun m => by
    obtain ⟨l, q⟩ := l a m
    rw [n] at q
    cases q) e⟩
theorem keeps_refl {H4 H5 : Hp} : KeepsN noneA H4 H5 H5 := ⟨fun _ _ e => e, fun _ _ _ _ e => e⟩
theorem same_eq {K : PySem.W.Frag} {H : Hp} {x y : V} {d : PyData} {k : Nat} {Q : VK} (p : Plain k d) (l : k ≤ 64) (hx : Dp K H x d) (hy : Dp K H y d) (q : Q (.bl true) H) : rEqD K x y H Q := by
  refine ⟨d, d, hx, hy, p.shaped l, p.shaped l, ?_⟩
  rw [p.self]
  exact q
section
variable {P : Program} {w : World} {K : PySem.W.Frag} {mg : Str → Option Value} {base : Heap} {Cm : Addr} {f : Addr} {fd : FuncData}
theorem scLaw : FnScope ["_law_script", "_law_d", "_law_one", "_law_other", "_law_told_here", "_law_first", "_law_second", "_law_again"] ["_law_script"] (defScope sLaw) := ⟨rfl, rfl, rfl, by decide +kernel, rfl, by decide +kernel, by decide +kernel⟩
theorem ok_law (F : FnP K "law" "law" sLaw f fd) (TF : TxF K mg) (TM : TxM K mg Cm) (Dc : DefAt K mg "_law_case" s_law_case) (Dt : DefAt K mg "_law_told" sTold) (Dcp : DefAt K mg "_law_copied" s_law_copied) (Dsp : DefAt K mg "_law_spoil" s_law_spoil) (Dp1 : DefAt K mg "played" s_played) (Dw : DefAt K mg "whole" s_whole) (TSr : TxSr K mg) (Mn : MethAt K Cm "nexts" "Machine.nexts" s_Machine_nexts) (Mf : MethAt K Cm "free" "Machine.free" s_Machine_free)
    (Mt : MethAt K Cm "top_now" "Machine.top_now" s_Machine_top_now) (Mm : MethAt K Cm "marked" "Machine.marked" s_Machine_marked) (TR : TxR11 K mg) (TC : TxCp mg) (hcm : mg "combinations" = some (.type "itertools.combinations")) : FnOk P w K mg base CX0 11 f fd ["_law_script"] (spLaw K) := by
  have c__law_dice : C8.Cal P w K mg base 1 "_law_dice" (spDice K) [] := cal_diceF TF
  have c__law_case : C8.Cal P w K mg base 9 "_law_case" (spCase11 K Cm) [] := cal_case11 TF TM Dc
  have c__law_told : C8.Cal P w K mg base 10 "_law_told" (spTold11 K Cm) [] := cal_told11 TM Dt Dp1 Dw TSr Mn Mf Mt Mm TR hcm
  have c__law_copied : C8.Cal P w K mg base 7 "_law_copied" (spCopied K 6) [] := by
    obtain ⟨f, fd, F, g⟩ := Dcp.ex
    exact cal_of F g (F.bindsN fun _ _ _ _ _ _ us hl => match us, hl with | [_], _ => rfl) (ok_copied F TC g 6)
  have c__law_spoil : C8.Cal P w K mg base 7 "_law_spoil" (spSpoil K 6) [] := by
    obtain ⟨f, fd, F, g⟩ := Dsp.ex
    exact cal_of F g (F.bindsN fun _ _ _ _ _ _ us hl => match us, hl with | [_], _ => rfl) (ok_spoil F TC g 6)
  refine fok F scLaw (fun vs H Q E h => ?_) (fun cdv A outer s0 H vs Q E hr h => ?_)
  · obtain ⟨a, ns, rfl, _⟩ := h
    rfl
  · obtain ⟨a, ns, rfl, hS, fin⟩ := h
    refine ⟨_, (pss_cons
    (ps_set (i := 1) scLaw.nd rfl (.inl rfl) (C8.pe_c c__law_dice hr (by decide) (by rfl) (pa_cons (pv 0) pa_nil))) (pss_cons
    (ps_set (i := 2) scLaw.nd rfl (.inl rfl) (C8.pe_c c__law_case hr (by decide) (by rfl) (pa_cons (pv 1) pa_nil))) (pss_cons
    (ps_set (i := 3) scLaw.nd rfl (.inl rfl) (C8.pe_c c__law_case hr (by decide) (by rfl) (pa_cons (pv 1) pa_nil))) (pss_cons
    (ps_set (i := 4) scLaw.nd rfl (.inl rfl) (C8.pe_c c__law_told hr (by decide) (by rfl) (pa_cons (pv 2) pa_nil))) (pss_cons
    (ps_set (i := 5) scLaw.nd rfl (.inl rfl) (C8.pe_c c__law_copied hr (by decide) (by rfl) (pa_cons (pv 4) pa_nil))) (pss_cons
    (ps_expr (C8.pe_c c__law_spoil hr (by decide) (by rfl) (pa_cons (pv 4) pa_nil))) (pss_cons
    (ps_set (i := 6) scLaw.nd rfl (.inl rfl) (C8.pe_c c__law_copied hr (by decide) (by rfl) (pa_cons (C8.pe_c c__law_told hr (by decide) (by rfl) (pa_cons (pv 3) pa_nil)) pa_nil))) (pss_cons
    (ps_set (i := 7) scLaw.nd rfl (.inl rfl) (C8.pe_c c__law_told hr (by decide) (by rfl) (pa_cons (pv 2) pa_nil))) (pss_cons
    (ps_if (pt_cmpR (op_neD hr.units) (pv 7) (pv 5) (nomark _)) (pss_one (ps_ret pe_bl)) pss_nil) (pss_cons
    (ps_expr (C8.pe_c c__law_spoil hr (by decide) (by rfl) (pa_cons (pv 7) pa_nil))) (pss_one
    (ps_ret (pe_and (pe_cmpR (op_eqD hr.units) (C8.pe_c c__law_told hr (by decide) (by rfl) (pa_cons (pv 3) pa_nil)) (pv 6) (nomark _)) (pe_one (pe_cmpR (op_eqD hr.units) (C8.pe_c c__law_told hr (by decide) (by rfl) (pa_cons (pv 2) pa_nil)) (pv 5) (nomark _)))))))))))))))), ?_⟩
    refine ⟨_, rfl, a, ns, rfl, hS, fun p H1 np s1 d1 => ?_⟩
    refine ⟨_, rfl, p, a, ns, rfl, d1, fun t va pa rl W L xs ps r ws s H2 w2 et C vp Wp pn => ?_⟩
    refine ⟨_, rfl, p, a, ns, rfl, w2.d, fun t' va' pa' rl' W' L' xs' ps' r' ws' s' H3 w3 et' C' vp' Wp' pn' => ?_⟩
    have n3 := C.ft.2.1
    have n3' := C'.ft.2.1
    have C3 := C.drew w2.d vp Wp pn w3.b
    have et3 := w3.b t _ (ne_of et w2.d.some.choose_spec (by intro z; cases z)) et
    clear C et pn pn'
    refine ⟨_, rfl, t, va, pa, rl, W, L, xs, ps, r, ws, s, rfl, et3, C3, fun v1 dd1 as1 H4 s4 T1 P1 => ?_⟩
    refine ⟨_, rfl, v1, dd1, rfl, P1.dp, P1.ft, fun w1 H5 s5 k5 => ?_⟩
    refine ⟨_, rfl, v1, as1, rfl, P1.ow.same s5, P1.fr.nd, fun H6 c6 => ?_⟩
    have s36 : Same H3 H6 := c6.same P1.fr.no (s4.trans s5)
    have q1 : Dp K H6 w1 dd1 := k5 H6 (keeps_spoil (own_lists P1.ow) s5 c6)
    refine ⟨_, rfl, t', va', pa', rl', W', L', xs', ps', r', ws', s', rfl, s36 _ _ et', C'.same s36, fun v2 dd2 as2 H7 s7 T2 P2 => ⟨v2, dd2, rfl, P2.dp, P2.ft, fun u2 H8 s8 k8 => ?_⟩⟩
    have q2 : Dp K H8 u2 dd2 := k8 H8 keeps_refl
    have s68 := s7.trans s8
    have s38 := s36.trans s68
    refine ⟨_, rfl, t, va, pa, rl, W, L, xs, ps, r, ws, s, rfl, s38 _ _ et3, C3.same s38, fun v3 dd3 as3 H9 s9 T3 P3 => ?_⟩
    have e3 := T3.one n3 T1
    subst e3
    refine ⟨_, rfl, _, rfl, same_ne P3.pl (by decide) P3.dp (dp_same (s68.trans s9) q1) ⟨_, rfl, iteF ?_⟩⟩
    refine ⟨_, rfl, v3, as3, rfl, P3.ow, P3.fr.nd, fun H10 c10 => ?_⟩
    have s8a : Same H8 H10 := c10.same P3.fr.no s9
    have s3a := s38.trans s8a
    refine ⟨_, rfl, t', va', pa', rl', W', L', xs', ps', r', ws', s', rfl, s3a _ _ et', C'.same s3a, fun v4 dd4 as4 H11 s11 T4 P4 => ?_⟩
    have e4 := T4.one n3' T2
    subst e4
    refine ⟨_, rfl, same_eq P4.pl (by decide) P4.dp (dp_same (s8a.trans s11) q2) ⟨_, rfl, iteT ?_⟩⟩
    have s3b := s3a.trans s11
    refine ⟨_, rfl, t, va, pa, rl, W, L, xs, ps, r, ws, s, rfl, s3b _ _ et3, C3.same s3b, fun v5 dd5 as5 H12 s12 T5 P5 => ?_⟩
    have e5 := T5.one n3 T1
    subst e5
    exact ⟨_, rfl, same_eq P5.pl (by decide) P5.dp (dp_same (s68.trans (s8a.trans (s11.trans s12))) q1) (fin _)⟩
end
end Sk


namespace Sk
open PySem PySem.Spec PyProof.Rows L2
section
variable {P : Program} {w : World} {K : PySem.W.Frag} {h : Heap} {mg : Str → Option Value} {f : Addr}
theorem defAt (X : K.In h) (G : h.Ns mainGlobals mg) (c : SaysR faK fnK exK K) (x : Str) (st : Stmt) (h1 : dOf x st ∈ fnK) (h2 : He.Fa.glo x ∈ faK) : DefAt K mg x st := by
  obtain ⟨fd, F⟩ := c.d.defs h1
  exact ⟨_, fd, F, He.glo_ok X G (c.d.facts h2)⟩
theorem methAt (c : SaysR faK fnK exK K) (m : Str) (st : Stmt) (h1 : dMe m st ∈ fnK) (h2 : He.Fa.meth "Machine" m ∈ faK) : MethAt K (He.ga K "Machine") m ("Machine." ++ m) st := by
  obtain ⟨fd, F⟩ := c.d.defs h1
  exact ⟨_, fd, F, He.meth_ok (c.d.facts h2)⟩
theorem facts (X : K.In h) (G : h.Ns mainGlobals mg) (hfa : mg ("law" : Str) = some (.ref f)) (c : SaysR faK fnK exK K) :
    ∃ fd : FuncData, (∀ (s : Shared) (v : Value), BindsTo s fd ⟨[v], []⟩ [("_law_script", v)]) ∧ ∀ base : Heap, K.In base → base.Ns mainGlobals mg → FnOk P w K mg base CX0 11 f fd ["_law_script"] (spLaw K) := by
  have B : TxB mg := ⟨(He.free_ok X G (c.d.facts (List.mem_of_getElem? (i := 83) rfl))), (He.free_ok X G (c.d.facts (List.mem_of_getElem? (i := 84) rfl))), (He.free_ok X G (c.d.facts (List.mem_of_getElem? (i := 85) rfl))), (He.free_ok X G (c.d.facts (List.mem_of_getElem? (i := 86) rfl))), (He.free_ok X G (c.d.facts (List.mem_of_getElem? (i := 87) rfl))), (He.free_ok X G (c.d.facts (List.mem_of_getElem? (i := 88) rfl))), (He.free_ok X G (c.d.facts (List.mem_of_getElem? (i := 89) rfl))), (He.free_ok X G (c.d.facts (List.mem_of_getElem? (i := 90) rfl))), (He.free_ok X G (c.d.facts (List.mem_of_getElem? (i := 91) rfl))), (He.free_ok X G (c.d.facts (List.mem_of_getElem? (i := 92) rfl))), (He.free_ok X G (c.d.facts (List.mem_of_getElem? (i := 94) rfl))), (He.free_ok X G (c.d.facts (List.mem_of_getElem? (i := 95) rfl))), (He.free_ok X G (c.d.facts (List.mem_of_getElem? (i := 98) rfl))), (He.free_ok X G (c.d.facts (List.mem_of_getElem? (i := 96) rfl))), (He.free_ok X G (c.d.facts (List.mem_of_getElem? (i := 97) rfl)))⟩
  have pop : ∃ p, TxPop K mg p := ⟨_, ⟨(He.glo_ok X G (c.d.facts (List.mem_of_getElem? (i := 5) rfl))), fun H => He.tupB_ok (c.ex (b := He.tupB K "POP" [.str "pop"]) (by simp [exK])) H⟩⟩
  have TF : TxF K mg := ⟨(defAt X G c "_law_dice" sDice (List.mem_of_getElem? (i := 40) rfl) (List.mem_of_getElem? (i := 47) rfl)), (defAt X G c "_law_next" sNext (List.mem_of_getElem? (i := 41) rfl) (List.mem_of_getElem? (i := 48) rfl)), (defAt X G c "_law_values" sValues (List.mem_of_getElem? (i := 42) rfl) (List.mem_of_getElem? (i := 49) rfl)), (defAt X G c "_law_deed" sDeed (List.mem_of_getElem? (i := 43) rfl) (List.mem_of_getElem? (i := 50) rfl)), (defAt X G c "_law_rule" sRule (List.mem_of_getElem? (i := 45) rfl) (List.mem_of_getElem? (i := 52) rfl)), (defAt X G c "_law_weaving" sWeav (List.mem_of_getElem? (i := 46) rfl) (List.mem_of_getElem? (i := 53) rfl)), (defAt X G c "_law_few" s_law_few (List.mem_of_getElem? (i := 47) rfl) (List.mem_of_getElem? (i := 54) rfl)), B⟩
  have TC : TxC mg := ⟨(He.int_ok X G (c.d.facts (List.mem_of_getElem? (i := 65) rfl))), (He.int_ok X G (c.d.facts (List.mem_of_getElem? (i := 66) rfl))), (He.int_ok X G (c.d.facts (List.mem_of_getElem? (i := 67) rfl))), (He.int_ok X G (c.d.facts (List.mem_of_getElem? (i := 68) rfl))), (He.int_ok X G (c.d.facts (List.mem_of_getElem? (i := 69) rfl))), (He.int_ok X G (c.d.facts (List.mem_of_getElem? (i := 70) rfl))), (He.int_ok X G (c.d.facts (List.mem_of_getElem? (i := 71) rfl))), (He.int_ok X G (c.d.facts (List.mem_of_getElem? (i := 72) rfl))), (He.int_ok X G (c.d.facts (List.mem_of_getElem? (i := 73) rfl))), (He.int_ok X G (c.d.facts (List.mem_of_getElem? (i := 74) rfl))), (He.int_ok X G (c.d.facts (List.mem_of_getElem? (i := 75) rfl))), (He.int_ok X G (c.d.facts (List.mem_of_getElem? (i := 76) rfl))), (He.int_ok X G (c.d.facts (List.mem_of_getElem? (i := 77) rfl))), (He.int_ok X G (c.d.facts (List.mem_of_getElem? (i := 78) rfl))), (He.int_ok X G (c.d.facts (List.mem_of_getElem? (i := 79) rfl))), (He.int_ok X G (c.d.facts (List.mem_of_getElem? (i := 80) rfl))), (He.int_ok X G (c.d.facts (List.mem_of_getElem? (i := 81) rfl))), (He.int_ok X G (c.d.facts (List.mem_of_getElem? (i := 82) rfl)))⟩
  have TS : TxS K mg := ⟨(defAt X G c "ahead_of" s_ahead_of (List.mem_of_getElem? (i := 11) rfl) (List.mem_of_getElem? (i := 17) rfl)), (defAt X G c "first_state" s_first_state (List.mem_of_getElem? (i := 12) rfl) (List.mem_of_getElem? (i := 18) rfl)), (defAt X G c "replaced" s_replaced (List.mem_of_getElem? (i := 13) rfl) (List.mem_of_getElem? (i := 19) rfl)), (defAt X G c "with_hand" s_with_hand (List.mem_of_getElem? (i := 14) rfl) (List.mem_of_getElem? (i := 20) rfl)), (defAt X G c "with_deed_done" s_with_deed_done (List.mem_of_getElem? (i := 15) rfl) (List.mem_of_getElem? (i := 21) rfl)), (defAt X G c "to_read_anew" s_to_read_anew (List.mem_of_getElem? (i := 16) rfl) (List.mem_of_getElem? (i := 22) rfl)), (defAt X G c "place_to_take" s_place_to_take (List.mem_of_getElem? (i := 17) rfl) (List.mem_of_getElem? (i := 23) rfl)), (defAt X G c "take" s_take (List.mem_of_getElem? (i := 18) rfl) (List.mem_of_getElem? (i := 24) rfl)), (defAt X G c "read" s_read (List.mem_of_getElem? (i := 19) rfl) (List.mem_of_getElem? (i := 25) rfl)), (defAt X G c "link" s_link (List.mem_of_getElem? (i := 20) rfl) (List.mem_of_getElem? (i := 26) rfl)), (defAt X G c "mark_or_look" s_mark_or_look (List.mem_of_getElem? (i := 21) rfl) (List.mem_of_getElem? (i := 27) rfl)), (defAt X G c "follow" s_follow (List.mem_of_getElem? (i := 22) rfl) (List.mem_of_getElem? (i := 28) rfl)), (defAt X G c "with_top" s_with_top (List.mem_of_getElem? (i := 23) rfl) (List.mem_of_getElem? (i := 29) rfl)), (defAt X G c "exchange" s_exchange (List.mem_of_getElem? (i := 24) rfl) (List.mem_of_getElem? (i := 30) rfl)), (defAt X G c "let_go" s_let_go (List.mem_of_getElem? (i := 25) rfl) (List.mem_of_getElem? (i := 31) rfl)), (defAt X G c "step" s_step (List.mem_of_getElem? (i := 26) rfl) (List.mem_of_getElem? (i := 32) rfl)), TC, pop, (He.free_ok X G (c.d.facts (List.mem_of_getElem? (i := 83) rfl))), (He.free_ok X G (c.d.facts (List.mem_of_getElem? (i := 89) rfl))), (He.free_ok X G (c.d.facts (List.mem_of_getElem? (i := 91) rfl))), (He.free_ok X G (c.d.facts (List.mem_of_getElem? (i := 92) rfl)))⟩
  have TT : TxT K mg := ⟨(defAt X G c "decides" s_decides (List.mem_of_getElem? (i := 27) rfl) (List.mem_of_getElem? (i := 33) rfl)), (defAt X G c "was_stale" s_was_stale (List.mem_of_getElem? (i := 28) rfl) (List.mem_of_getElem? (i := 34) rfl))⟩
  have TK : TxK K mg := ⟨(defAt X G c "is_value" sIsVal (List.mem_of_getElem? (i := 0) rfl) (List.mem_of_getElem? (i := 6) rfl)), (defAt X G c "is_deed" sIsDeed (List.mem_of_getElem? (i := 1) rfl) (List.mem_of_getElem? (i := 7) rfl)), (defAt X G c "check_values" sChkV (List.mem_of_getElem? (i := 2) rfl) (List.mem_of_getElem? (i := 8) rfl)), (defAt X G c "first_bad_deed" sFirst (List.mem_of_getElem? (i := 3) rfl) (List.mem_of_getElem? (i := 9) rfl)), (defAt X G c "check_programs" s_check_programs (List.mem_of_getElem? (i := 6) rfl) (List.mem_of_getElem? (i := 12) rfl)), (defAt X G c "are_rising_hands" s_are_rising_hands (List.mem_of_getElem? (i := 7) rfl) (List.mem_of_getElem? (i := 13) rfl)), (defAt X G c "is_rule" s_is_rule (List.mem_of_getElem? (i := 8) rfl) (List.mem_of_getElem? (i := 14) rfl)), (defAt X G c "check_pile_and_programs" s_check_pile_and_programs (List.mem_of_getElem? (i := 9) rfl) (List.mem_of_getElem? (i := 15) rfl)), (defAt X G c "check_all" s_check_all (List.mem_of_getElem? (i := 10) rfl) (List.mem_of_getElem? (i := 16) rfl)), (He.int_ok X G (c.d.facts (List.mem_of_getElem? (i := 61) rfl))), (He.int_ok X G (c.d.facts (List.mem_of_getElem? (i := 60) rfl))), (He.int_ok X G (c.d.facts (List.mem_of_getElem? (i := 62) rfl))), (He.int_ok X G (c.d.facts (List.mem_of_getElem? (i := 63) rfl))), (He.int_ok X G (c.d.facts (List.mem_of_getElem? (i := 64) rfl))), pop, (He.free_ok X G (c.d.facts (List.mem_of_getElem? (i := 83) rfl))), (He.free_ok X G (c.d.facts (List.mem_of_getElem? (i := 92) rfl))), (He.free_ok X G (c.d.facts (List.mem_of_getElem? (i := 85) rfl))), (He.free_ok X G (c.d.facts (List.mem_of_getElem? (i := 84) rfl))), (He.free_ok X G (c.d.facts (List.mem_of_getElem? (i := 89) rfl)))⟩
  have TM : TxM K mg (He.ga K "Machine") := ⟨(He.glo_ok X G (c.d.facts (List.mem_of_getElem? (i := 35) rfl))), He.cls_ok (c.d.facts (List.mem_of_getElem? (i := 101) rfl)), (He.noat_ok (c.d.facts (List.mem_of_getElem? (i := 103) rfl))), (He.noat_ok (c.d.facts (List.mem_of_getElem? (i := 104) rfl))), (He.noat_ok (c.d.facts (List.mem_of_getElem? (i := 105) rfl))), (He.noat_ok (c.d.facts (List.mem_of_getElem? (i := 106) rfl))), (He.noat_ok (c.d.facts (List.mem_of_getElem? (i := 107) rfl))), (He.noat_ok (c.d.facts (List.mem_of_getElem? (i := 108) rfl))), by obtain ⟨fd, F⟩ := c.d.defs (List.mem_of_getElem? (i := 53) rfl : dMe "__init__" s_Machine_init ∈ fnK); exact ⟨_, fd, F, He.mkr_ok (c.d.facts (List.mem_of_getElem? (i := 102) rfl))⟩, (methAt c "check_hand" s_Machine_check_hand (List.mem_of_getElem? (i := 54) rfl) (List.mem_of_getElem? (i := 109) rfl)), (methAt c "turn" s_Machine_turn (List.mem_of_getElem? (i := 55) rfl) (List.mem_of_getElem? (i := 110) rfl)), (methAt c "answers" s_Machine_answers (List.mem_of_getElem? (i := 56) rfl) (List.mem_of_getElem? (i := 111) rfl)), (methAt c "order" s_Machine_order (List.mem_of_getElem? (i := 58) rfl) (List.mem_of_getElem? (i := 113) rfl)), (methAt c "pile" s_Machine_pile (List.mem_of_getElem? (i := 62) rfl) (List.mem_of_getElem? (i := 117) rfl)), (methAt c "pile_values" s_Machine_pile_values (List.mem_of_getElem? (i := 63) rfl) (List.mem_of_getElem? (i := 118) rfl)), (methAt c "is_stale" s_Machine_is_stale (List.mem_of_getElem? (i := 64) rfl) (List.mem_of_getElem? (i := 119) rfl)), (methAt c "is_done" s_Machine_is_done (List.mem_of_getElem? (i := 65) rfl) (List.mem_of_getElem? (i := 120) rfl)), TS, TT, TK, (He.free_ok X G (c.d.facts (List.mem_of_getElem? (i := 83) rfl))), (He.free_ok X G (c.d.facts (List.mem_of_getElem? (i := 90) rfl))), (He.free_ok X G (c.d.facts (List.mem_of_getElem? (i := 89) rfl))), (He.free_ok X G (c.d.facts (List.mem_of_getElem? (i := 93) rfl))), (He.free_ok X G (c.d.facts (List.mem_of_getElem? (i := 91) rfl)))⟩
  obtain ⟨fl, fd, F, gF⟩ := ((defAt X G c "law" sLaw (List.mem_of_getElem? (i := 52) rfl) (List.mem_of_getElem? (i := 59) rfl))).ex
  have e := hfa.symm.trans gF
  cases e
  have b := FunD.bindsA (ps := ["_law_script"]) F fun _ _ _ _ _ _ us hl => match us, hl with | [_], _ => rfl
  refine ⟨fd, fun s v => b s [v] rfl, fun base hb hns => ?_⟩
  exact ok_law F TF TM (defAt X G c "_law_case" s_law_case (List.mem_of_getElem? (i := 50) rfl) (List.mem_of_getElem? (i := 57) rfl)) (defAt X G c "_law_told" sTold (List.mem_of_getElem? (i := 51) rfl) (List.mem_of_getElem? (i := 58) rfl)) (defAt X G c "_law_copied" s_law_copied (List.mem_of_getElem? (i := 48) rfl) (List.mem_of_getElem? (i := 55) rfl)) (defAt X G c "_law_spoil" s_law_spoil (List.mem_of_getElem? (i := 49) rfl) (List.mem_of_getElem? (i := 56) rfl)) (defAt X G c "played" s_played (List.mem_of_getElem? (i := 38) rfl) (List.mem_of_getElem? (i := 45) rfl)) (defAt X G c "whole" s_whole (List.mem_of_getElem? (i := 39) rfl) (List.mem_of_getElem? (i := 46) rfl)) ⟨(defAt X G c "serial" sSerial (List.mem_of_getElem? (i := 5) rfl) (List.mem_of_getElem? (i := 11) rfl)), (defAt X G c "do_deed" sDo (List.mem_of_getElem? (i := 4) rfl) (List.mem_of_getElem? (i := 10) rfl)), (He.free_ok X G (c.d.facts (List.mem_of_getElem? (i := 90) rfl)))⟩ (methAt c "nexts" s_Machine_nexts (List.mem_of_getElem? (i := 60) rfl) (List.mem_of_getElem? (i := 115) rfl)) (methAt c "free" s_Machine_free (List.mem_of_getElem? (i := 61) rfl) (List.mem_of_getElem? (i := 116) rfl)) (methAt c "top_now" s_Machine_top_now (List.mem_of_getElem? (i := 59) rfl) (List.mem_of_getElem? (i := 114) rfl)) (methAt c "marked" s_Machine_marked (List.mem_of_getElem? (i := 57) rfl) (List.mem_of_getElem? (i := 112) rfl)) ⟨(defAt X G c "stale" s_stale (List.mem_of_getElem? (i := 35) rfl) (List.mem_of_getElem? (i := 42) rfl)), (defAt X G c "first_stale" s_first_stale (List.mem_of_getElem? (i := 34) rfl) (List.mem_of_getElem? (i := 41) rfl)), (defAt X G c "is_safe_rule" s_is_safe_rule (List.mem_of_getElem? (i := 29) rfl) (List.mem_of_getElem? (i := 36) rfl)), (defAt X G c "may_be_stale" s_may_be_stale (List.mem_of_getElem? (i := 30) rfl) (List.mem_of_getElem? (i := 37) rfl)), (defAt X G c "search" s_search (List.mem_of_getElem? (i := 33) rfl) (List.mem_of_getElem? (i := 40) rfl)), (defAt X G c "weaving_to" s_weaving_to (List.mem_of_getElem? (i := 32) rfl) (List.mem_of_getElem? (i := 39) rfl)), (defAt X G c "without_value" s_without_value (List.mem_of_getElem? (i := 31) rfl) (List.mem_of_getElem? (i := 38) rfl)), (defAt X G c "safe_counts" s_safe_counts (List.mem_of_getElem? (i := 36) rfl) (List.mem_of_getElem? (i := 43) rfl)), (defAt X G c "least_marks" s_least_marks (List.mem_of_getElem? (i := 37) rfl) (List.mem_of_getElem? (i := 44) rfl)), (He.free_ok X G (c.d.facts (List.mem_of_getElem? (i := 95) rfl))), (He.free_ok X G (c.d.facts (List.mem_of_getElem? (i := 83) rfl))), (He.free_ok X G (c.d.facts (List.mem_of_getElem? (i := 92) rfl))), (He.free_ok X G (c.d.facts (List.mem_of_getElem? (i := 99) rfl))), (He.free_ok X G (c.d.facts (List.mem_of_getElem? (i := 91) rfl))), (He.free_ok X G (c.d.facts (List.mem_of_getElem? (i := 89) rfl)))⟩ ⟨(He.free_ok X G (c.d.facts (List.mem_of_getElem? (i := 85) rfl))), (He.free_ok X G (c.d.facts (List.mem_of_getElem? (i := 90) rfl))), (He.free_ok X G (c.d.facts (List.mem_of_getElem? (i := 89) rfl)))⟩ (PySem.W.mg_of X G (He.eqO_ok (c.ex (b := combB K) (by simp [exK]))))
end
end Sk
open PySem PySem.W PySem.Calls PyProof.Rows
theorem PySem.Challenge.cw_stalestack_k11_asked_again_holds : PySem.Challenge.rw_stalestack_k11_asked_again.Holds := by
  w_on; o_law
  refine HandSHeadRun.head_imp (r := Sk.RowK) (q := view Sk.RowK.prog [0, 91]) (H := Sk.hkK) (ob := Sk.obK) (M := 20000) (loose := Sk.looseK) (d := HandSHeadRun.topDef Sk.RowK.prog 91) (kwd := []) Sk.obK_eq
    Sk.runK (by kernel_rfl) (by kernel_rfl) (by kernel_rfl) (by rfl) (by first | assumption | decide +kernel) (by decide +kernel) ⟨rfl, rfl, rfl, rfl, rfl, by decide +kernel⟩ ?hw ?hc
  case hw => w_witness2
  case hc =>
    refine L2.walk_ofE (l := PySem.Challenge.rw_stalestack_k11_asked_again) (n := 63) (k := 11) (x := "_law_script") (CX := L2.CX0) rfl (by decide) (by kernel_rfl) ⟨rfl, by decide, by decide⟩ ?F (fun _ _ _ _ z => z)
    intro w mg fa h Y G hmg0
    obtain ⟨K, KX, c⟩ := Y
    have hmg : mg ("law" : PySem.Str) = some (.ref fa) := by
      have e : (HandSHeadRun.topDef Sk.RowK.prog 91).name = ("law" : PySem.Str) := by kernel_rfl
      rw [← e]
      exact hmg0
    obtain ⟨fd, hb, hF⟩ := Sk.facts (P := (PySem.Challenge.rw_stalestack_k11_asked_again).prog) (w := w) KX G hmg c
    exact ⟨K, fd, Sk.spLaw K, KX, hb, fun H a ns hl _ hS => ⟨a, ns, rfl, hS, fun _ => rfl⟩, hF⟩


