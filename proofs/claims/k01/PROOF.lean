import PyProof.Rows.All
import Wide.All
import OpenK.AllK
import Wide.FinOn
import HandS.ForMost
import HandS.Flow
import HandS.IsInst
import HandS.Defaults
import HandS.FStr
import HandS.ExcInit
import HandS.ExcField
import HandS.ExcIs
import HandS.HotCalls
import HandS.Walk
import HandS.ClsMeth
import HandS.Evl
import HandS.Head0
import HandS.Head1
import HandS.Head2
import HandS.HeadEnd
import HandS.HeadHook1
import HandS.HeadHook2
import HandS.HeadHook3
import HandS.HeadHook4
import PySem.Challenge.RW_stalestack_k01_deeds_one_by_one
set_option Elab.async false
set_option linter.all false
set_option maxRecDepth 100000
set_option maxHeartbeats 16000000

/-! Words that do not hang on the program. -/
namespace Sk
open PySem PySem.Spec PyProof.Rows L2

abbrev FnP (K : PySem.W.Frag) (x q : Str) (st : Stmt) (f : Addr) (fd : FuncData) : Prop := FunD K x q (defArgs st) (defBody st) (defScope st) [] [] f fd

section
variable {P : Program} {w : World} {K : PySem.W.Frag} {mg : Str → Option Value} {base : Heap}
/-- a def that lets no exception out -/
theorem fok {x q : Str} {st : Stmt} {f : Addr} {fd : FuncData} {N ps : List Str} {k : Nat} {sp : Sp} (F : FnP K x q st f fd) (S : FnScope N ps (defScope st)) (len : ∀ vs H Q E, sp vs H Q E → vs.length = ps.length)
    (body : ∀ (cdv : Value) (A : Around) (outer : List Env) (s : Shared) (H : Hp) (vs : List V) (Q : VK) (E : XK), Room k (A.deeper (envOfC q (defScope st) s.heap.objs.size f cdv)) → sp vs H Q E →
      ∃ t, PSs (cxOf CX0 P w K mg base N q (defScope st) f cdv A outer s H E).nox (defBody st) t ∧ t { nx := fun _ H' => Q .non H', rt := Q } (start N vs) H) : FnOk P w K mg base CX0 (k + 1) f fd ps sp := by
  refine F.ok S len fun cdv A outer s H vs Q E hr h => ?_
  obtain ⟨t, h1, h2⟩ := body cdv A outer s H vs Q E hr h
  exact ⟨t, h1.nox, h2⟩
end

/-! ### heaps -/
/-- all but what stands at p is kept -/
def But (p : Addr) (H H' : Hp) : Prop := ∀ b o, b ≠ p → H b = some o → H' b = some o
theorem But.refl {p : Addr} {H : Hp} : But p H H := fun _ _ _ h => h
theorem But.trans {p : Addr} {H H1 H2 : Hp} (a : But p H H1) (b : But p H1 H2) : But p H H2 := fun c o n h => b c o n (a c o n h)
theorem But.upd {p : Addr} {H : Hp} {o : HO} : But p H (upd H p o) := fun b u n h => by rw [upd_ne n]; exact h
theorem But.of {p : Addr} {H H' : Hp} (s : Same H H') : But p H H' := fun b o _ h => s b o h
theorem ne_sh {H : Hp} {a b : Addr} {o u : HO} (h : H a = some o) (h' : H b = some u) (d : o ≠ u) : a ≠ b := ne_of h h' d
theorem But.free {p l : Addr} {H H' : Hp} {o : HO} (s : But p H H') (hp : H' p = some o) (h : H' l = none) : H l = none := by
  cases q : H l with
  | none => rfl
  | some u =>
    have n : l ≠ p := fun e => by
      rw [e, hp] at h
      cases h
    rw [s l u n q] at h
    cases h
theorem But.seq {K : PySem.W.Frag} {p a : Addr} {xs : List V} {H H' : Hp} (s : But p H H') (n : a ≠ p) (h : SqL K H a xs) : SqL K H' a xs := by
  rcases h with (h | ⟨o, h⟩) | h
  · exact .inl (.inl (s _ _ n h))
  · exact .inl (.inr ⟨o, s _ _ n h⟩)
  · exact .inr h
theorem But.tup {K : PySem.W.Frag} {p a : Addr} {xs : List V} {H H' : Hp} (s : But p H H') (n : a ≠ p) (h : SqT K H a xs) : SqT K H' a xs := by
  rcases h with (h | ⟨o, h⟩) | h
  · exact .inl (.inl (s _ _ n h))
  · exact .inl (.inr ⟨o, s _ _ n h⟩)
  · exact .inr h
theorem same_tup {K : PySem.W.Frag} {a : Addr} {xs : List V} {H H' : Hp} (s : Same H H') (h : SqT K H a xs) : SqT K H' a xs := by
  rcases h with (h | ⟨o, h⟩) | h
  · exact .inl (.inl (s _ _ h))
  · exact .inl (.inr ⟨o, s _ _ h⟩)
  · exact .inr h
theorem same_upd {H : Hp} {p : Addr} {o : HO} (h : H p = none) : Same H (upd H p o) := fun b u e => by
  rw [upd_ne (ne_of_none e h)]
  exact e

/-! ### the dice -/
/-- the script, out of the dice's reach -/
def ScAt (K : PySem.W.Frag) (H : Hp) (p a : Addr) (xs : List V) : Prop := (a ≠ p ∧ SqL K H a xs) ∨ ∀ H', SqL K H' a xs
theorem ScAt.seq {K : PySem.W.Frag} {H : Hp} {p a : Addr} {xs : List V} (h : ScAt K H p a xs) : SqL K H a xs := by
  rcases h with ⟨_, h⟩ | h
  · exact h
  · exact h H
theorem ScAt.but {K : PySem.W.Frag} {H H' : Hp} {p a : Addr} {xs : List V} (h : ScAt K H p a xs) (b : But p H H') : ScAt K H' p a xs := by
  rcases h with ⟨n, h⟩ | h
  · exact .inl ⟨n, b.seq n h⟩
  · exact .inr h
theorem ScAt.new {K : PySem.W.Frag} {H : Hp} {p a : Addr} {xs : List V} {o : HO} (h : SqL K H a xs) (n : H p = none) : ScAt K (upd H p o) p a xs := by
  have go : ∀ u, H a = some u → a ≠ p ∧ SqL K (upd H p o) a xs := fun u e => ⟨ne_of_none e n, (same_upd n).seq h⟩
  rcases h with (h | ⟨u, h⟩) | h
  · exact .inl (go _ h)
  · exact .inl (go _ h)
  · exact .inr fun H' => .inr h
/-- a list at p: the script (at a), the place, the mixed number, the rest -/
structure Dice (K : PySem.W.Frag) (H : Hp) (p a : Addr) (ns : List Int) : Prop where
  at_ : ∃ i m c : Int, H p = some (.lst [.ref a, .int i, .int m, .int c]) ∧ 0 ≤ i ∧ 0 ≤ m ∧ m < 2147483647
  sc : ScAt K H p a (ns.map V.int)
theorem Dice.some {K : PySem.W.Frag} {H : Hp} {p a : Addr} {ns : List Int} (d : Dice K H p a ns) : ∃ xs, H p = Option.some (.lst xs) := by
  obtain ⟨i, m, c, h, _⟩ := d.at_
  exact ⟨_, h⟩
/-- a new heap that holds the dice as it stood -/
theorem Dice.same {K : PySem.W.Frag} {H H' : Hp} {p a : Addr} {ns : List Int} (d : Dice K H p a ns) (s : Same H H') : Dice K H' p a ns := by
  obtain ⟨i, m, c, h, r⟩ := d.at_
  exact ⟨⟨i, m, c, s _ _ h, r⟩, d.sc.but (.of s)⟩
/-- what a draw from the dice at p leaves -/
structure Drew (K : PySem.W.Frag) (p a : Addr) (ns : List Int) (H H' : Hp) : Prop where
  d : Dice K H' p a ns
  b : But p H H'
theorem Drew.refl {K : PySem.W.Frag} {p a : Addr} {ns : List Int} {H : Hp} (d : Dice K H p a ns) : Drew K p a ns H H := ⟨d, .refl⟩
theorem Drew.trans {K : PySem.W.Frag} {p a : Addr} {ns : List Int} {H H1 H2 : Hp} (x : Drew K p a ns H H1) (y : Drew K p a ns H1 H2) : Drew K p a ns H H2 := ⟨y.d, x.b.trans y.b⟩
theorem Drew.same {K : PySem.W.Frag} {p a : Addr} {ns : List Int} {H H1 H2 : Hp} (x : Drew K p a ns H H1) (s : Same H1 H2) : Drew K p a ns H H2 := ⟨x.d.same s, x.b.trans (.of s)⟩
theorem Drew.free {K : PySem.W.Frag} {p a l : Addr} {ns : List Int} {H H' : Hp} (x : Drew K p a ns H H') (h : H' l = none) : H l = none := by
  obtain ⟨xs, e⟩ := x.d.some
  exact x.b.free e h
theorem Drew.ne {K : PySem.W.Frag} {p a l : Addr} {ns : List Int} {H H' : Hp} (x : Drew K p a ns H H') (h : H' l = none) : l ≠ p := fun e => by
  obtain ⟨xs, q⟩ := x.d.some
  rw [e, q] at h
  cases h
/-- a draw below n -/
def spNext (K : PySem.W.Frag) : Sp := fun vs H Q _ => ∃ (p a : Addr) (ns : List Int) (n : Int), vs = [.ref p, .int n] ∧ Dice K H p a ns ∧ 0 < n ∧ n < 1073741824 ∧
  ∀ (r : Int) (H' : Hp), 0 ≤ r → r < n → Drew K p a ns H H' → Q (.int r) H'
theorem dice_set {K : PySem.W.Frag} {H H1 : Hp} {p a : Addr} {ns : List Int} (d : Drew K p a ns H H1) {i m c : Int} (hi : 0 ≤ i) (h0 : 0 ≤ m) (h1 : m < 2147483647) {xs : List V} (e : xs = [.ref a, .int i, .int m, .int c]) : Drew K p a ns H (upd H1 p (.lst xs)) := by
  subst e
  exact ⟨⟨⟨i, m, c, upd_same, hi, h0, h1⟩, d.d.sc.but .upd⟩, d.b.trans .upd⟩
/-- the dice made -/
def spDice (K : PySem.W.Frag) : Sp := fun vs H Q _ => ∃ (a : Addr) (ns : List Int), vs = [.ref a] ∧ SqL K H a (ns.map V.int) ∧
  ∀ (p : Addr) (H' : Hp), H p = none → Same H H' → Dice K H' p a ns → Q (.ref p) H'
end Sk
namespace Sk
open PySem PySem.Spec PyProof.Rows L2
/-! ### data that are compared -/
/-- data of a depth below n, no dicts, short lists -/
inductive Fits : Nat → PyData → Prop
  | non (n : Nat) : Fits (n + 1) .none
  | bl (n : Nat) (b : Bool) : Fits (n + 1) (.bool b)
  | int (n : Nat) (i : Int) : Fits (n + 1) (.int i)
  | str (n : Nat) (x : Str) : Fits (n + 1) (.str x)
  | lst (n : Nat) {ds : List PyData} (l : ds.length ≤ 100000) (h : ∀ d ∈ ds, Fits n d) : Fits (n + 1) (.list ds)
  | tup (n : Nat) {ds : List PyData} (l : ds.length ≤ 100000) (h : ∀ d ∈ ds, Fits n d) : Fits (n + 1) (.tuple ds)
theorem DpAll.len {K : PySem.W.Frag} {H : Hp} : ∀ {vs : List V} {ds : List PyData}, DpAll K H vs ds → vs.length = ds.length
  | [], [], _ => rfl
  | _ :: _, _ :: _, h => by
    cases h with
    | cons h1 h2 => exact congrArg Nat.succ (DpAll.len h2)
  | [], _ :: _, h => by cases h
  | _ :: _, [], h => by cases h
theorem dpall_get {K : PySem.W.Frag} {H : Hp} {v : V} : ∀ (vs : List V) (ds : List PyData) (i : Nat), DpAll K H vs ds → vs[i]? = some v → ∃ d, ds[i]? = some d ∧ Dp K H v d
  | [], _, i, _, e => by simp at e
  | x :: vs, [], i, h, _ => by cases h
  | x :: vs, d :: ds, 0, h, e => by
    cases h with
    | cons h1 h2 =>
      have q : x = v := Option.some.inj e
      exact ⟨d, rfl, q ▸ h1⟩
  | x :: vs, d :: ds, i + 1, h, e => by
    cases h with
    | cons h1 h2 =>
      have e' : vs[i]? = some v := by simpa using e
      obtain ⟨d', q1, q2⟩ := dpall_get vs ds i h2 e'
      exact ⟨d', by simpa using q1, q2⟩
theorem DpAll.at_ {K : PySem.W.Frag} {H : Hp} {v : V} {vs : List V} {ds : List PyData} {i : Nat} (h : DpAll K H vs ds) (e : vs[i]? = some v) : ∃ d, ds[i]? = some d ∧ Dp K H v d := dpall_get vs ds i h e
def tyN : PyData → String
  | .none => "NoneType"
  | .bool _ => "bool"
  | .int _ => "int"
  | .str _ => "str"
  | .list _ => "list"
  | .tuple _ => "tuple"
  | .dict _ => "dict"
theorem sql_ty {K : PySem.W.Frag} {H : Hp} {a : Addr} {xs : List V} (h : SqL K H a xs) : TyX K H (.ref a) (.type "list") := by
  rcases h with (h | ⟨o, h⟩) | ⟨o, its, n, h, c, _⟩
  · exact .base (.lst h)
  · exact .base (.frz h)
  · exact .kList h c
theorem sqt_ty {K : PySem.W.Frag} {H : Hp} {a : Addr} {xs : List V} (h : SqT K H a xs) : TyX K H (.ref a) (.type "tuple") := by
  rcases h with (h | ⟨o, h⟩) | ⟨o, its, n, h, c, _⟩
  · exact .base (.tup h)
  · exact .fTuple h
  · exact .kTuple h c
theorem dp_ty {K : PySem.W.Frag} {H : Hp} {v : V} {d : PyData} (h : Dp K H v d) : TyX K H v (.type (tyN d)) := by
  cases h with
  | non => exact .base .non
  | bl b => exact .base (.bl b)
  | int i => exact .base (.int i)
  | str x => exact .base (.str x)
  | lst h _ => exact sql_ty h
  | tup h _ => exact sqt_ty h
/-- two that read as the same data: True -/
def spLike (K : PySem.W.Frag) (n : Nat) : Sp := fun vs H Q _ => ∃ (x y : V) (d : PyData), vs = [x, y] ∧ Dp K H x d ∧ Dp K H y d ∧ Fits n d ∧ Q (.bl true) H
theorem dec_self (x : V) : decide (x = x) = true := decide_eq_true rfl
theorem Fits.mono : ∀ {n m : Nat} {d : PyData}, Fits n d → n ≤ m → Fits m d
  | n + 1, 0, _, _, h => absurd h (Nat.not_succ_le_zero n)
  | n + 1, m + 1, _, .non _, _ => .non m
  | n + 1, m + 1, _, .bl _ b, _ => .bl m b
  | n + 1, m + 1, _, .int _ i, _ => .int m i
  | n + 1, m + 1, _, .str _ x, _ => .str m x
  | n + 1, m + 1, _, .lst _ l h, z => .lst m l fun d hd => (h d hd).mono (Nat.le_of_succ_le_succ z)
  | n + 1, m + 1, _, .tup _ l h, z => .tup m l fun d hd => (h d hd).mono (Nat.le_of_succ_le_succ z)
end Sk
namespace Sk
open PySem PySem.Spec PyProof.Rows L2
/-- a new object at D, stored to: the dice stand -/
theorem Drew.put {K : PySem.W.Frag} {p a D : Addr} {ns : List Int} {H H1 : Hp} {o : HO} (d0 : Dice K H p a ns) (x : Drew K p a ns H H1) (n : H D = none) (ne : D ≠ p) : Drew K p a ns H (upd H1 D o) := by
  have b : But p H (upd H1 D o) := fun c u q e => by
    rw [upd_ne (ne_of_none e n)]
    exact x.b c u q e
  obtain ⟨i, m, c, h, r⟩ := x.d.at_
  exact ⟨⟨⟨i, m, c, by rw [upd_ne (Ne.symm ne)]; exact h, r⟩, d0.sc.but b⟩, b⟩
end Sk
namespace Sk
open PySem PySem.Spec PyProof.Rows L2
/-- a comprehension without a test -/
theorem tyes {σ : L2.St} {H : Hp} {A B : Hp → Prop} (h : A H) : tYes σ H fun b H3 => if b = true then A H3 else B H3 := by
  show (if true = true then A H else B H)
  rw [if_pos rfl]
  exact h
end Sk


namespace Sk
open PySem PySem.Spec PyProof.Rows L2
def top (i : Nat) : Stmt := PySem.Challenge.pw_stalestack_k01_deeds_one_by_one.main.body.getD i (.Pass ⟨0, 0, 0, 0⟩)
abbrev sDice : Stmt := top 17
abbrev sNext : Stmt := top 18
section
variable {P : Program} {w : World} {K : PySem.W.Frag} {mg : Str → Option Value} {base : Heap} {f : Addr} {fd : FuncData}
theorem scDice : FnScope ["_law_script", "_law_mixed", "_law_cell"] ["_law_script"] (defScope sDice) := ⟨rfl, rfl, rfl, by decide +kernel, rfl, by decide +kernel, by decide +kernel⟩
theorem scNext : FnScope ["_law_dice_here", "_law_many", "_law_found", "_law_cell"] ["_law_dice_here", "_law_many"] (defScope sNext) := ⟨rfl, rfl, rfl, by decide +kernel, rfl, by decide +kernel, by decide +kernel⟩

theorem ok_dice (F : FnP K "_law_dice" "_law_dice" sDice f fd) (mL : mg "len" = none) (mI : mg "int" = none) : FnOk P w K mg base CX0 1 f fd ["_law_script"] (spDice K) := by
  refine fok F scDice (fun vs H Q E h => ?_) (fun cdv A outer s H vs Q E hr h => ?_)
  · obtain ⟨a, ns, rfl, _⟩ := h
    rfl
  · obtain ⟨a, ns, rfl, hS, k⟩ := h
    refine ⟨_, pss_cons (ps_set (i := 1) scDice.nd rfl (.inl rfl) pe_int)
      (pss_cons (ps_for PassesOwn.never rfl (pi_list (pv 0)) (pg_name (i := 2) scDice.nd rfl (.inl rfl))
        (pss_one (ps_set (i := 1) scDice.nd rfl (.inl rfl) (pe_op op_mod (pe_op op_add (pe_op op_add (pe_op op_mul (pv 1) pe_int) (pe_op op_mul (pe_op op_mod (pv 2) pe_int) pe_int)) pe_int) pe_int))))
      (pss_one (ps_ret (pe_lst (pa_cons (pv 0) (pa_cons pe_int (pa_cons (pe_op op_mul (pv 1) (pe_callTy call_int1 (by rfl) mI (by decide +kernel) (pa_cons (pe_cmpR op_gt (pe_callB call_len_seq (by rfl) mL PySem.boot_len (pa_cons (pv 0) pa_nil)) pe_int (nomark _)) pa_nil))) (pa_cons pe_int pa_nil)))))))), ?_⟩
    refine ⟨_, rfl, a, rfl, ⟨_, hS⟩, for_list (K := K) (a := a) (xs := ns.map V.int) (fun i σ H' => H' = H ∧ ∃ (m : Int) (v : Option V), σ = [some (.ref a), some (.int m), v] ∧ 0 ≤ m ∧ m < 2147483647)
      ⟨rfl, 0, none, rfl, by omega, by omega⟩ (fun i σ H' _ ⟨e, _⟩ => by rw [e]; exact hS) ?_ ?_⟩
    · rintro i y σ H' hi ⟨rfl, m, v, rfl, h0, h1⟩
      obtain ⟨u, rfl⟩ : ∃ u, y = V.int u := by
        rw [List.getElem?_map] at hi
        cases e : ns[i]? with
        | none => rw [e] at hi; cases hi
        | some u => rw [e] at hi; exact ⟨u, (Option.some.inj hi).symm⟩
      refine ⟨_, rfl, _, _, rfl, rfl, .inl ⟨by omega, by omega⟩, _, rfl, _, _, rfl, rfl, (by show (0 : Int) < 2147483647; decide), _, _, rfl, rfl, .inr ⟨by decide, by decide⟩, _, _, rfl, rfl, _, _, rfl, rfl, _, _, rfl, rfl, (by show (0 : Int) < 2147483647; decide), ?_⟩
      exact ⟨rfl, _, _, rfl, Int.emod_nonneg _ (by decide), Int.emod_lt_of_pos _ (by decide)⟩
    · rintro σ H' ⟨rfl, m, v, rfl, h0, h1⟩
      refine ⟨_, rfl, _, rfl, _, rfl, a, _, rfl, .inl hS, _, _, rfl, rfl, .inr ⟨_, rfl, _, _, rfl, rfl, .inl ⟨by omega, by omega⟩, (by show 4 ≤ sizeLine; decide), fun p hp => ?_⟩⟩
      refine k p _ hp (same_upd hp) ⟨⟨_, _, _, upd_same, by omega, ?_, ?_⟩, .new hS hp⟩
      · split
        · omega
        · omega
      · split
        · omega
        · omega
theorem ok_next (F : FnP K "_law_next" "_law_next" sNext f fd) (mL : mg "len" = none) : FnOk P w K mg base CX0 1 f fd ["_law_dice_here", "_law_many"] (spNext K) := by
  refine fok F scNext (fun vs H Q E h => ?_) (fun cdv A outer s H vs Q E hr h => ?_)
  · obtain ⟨p, a, ns, n, rfl, _⟩ := h
    rfl
  · obtain ⟨p, a, ns, n, rfl, d, n0, n1, k⟩ := h
    refine ⟨_, pss_cons (ps_if (pt_cmpR op_gt (pe_ix ix_list (pv 0) pe_int (fun _ _ => rfl)) pe_int (nomark _))
        (pss_cons (ps_set (i := 2) scNext.nd rfl (.inl rfl) (pe_op op_mod (pe_ix ix_list (pv 0) pe_int (fun _ _ => rfl)) (pv 1)))
        (pss_cons (ps_asg (pe_op op_fdiv (pe_ix ix_list (pv 0) pe_int (fun _ _ => rfl)) (pv 1)) (pg_sub (pv 0) pe_int set_list))
        (pss_one (ps_ret (pv 2))))) pss_nil)
      (pss_cons (ps_asg (pe_op op_add (pe_ix ix_list (pv 0) pe_int (fun _ _ => rfl)) pe_int) (pg_sub (pv 0) pe_int set_list))
      (pss_cons (ps_if (pt_cmpR op_le (pe_ix ix_list (pv 0) pe_int (fun _ _ => rfl)) (pe_callB call_len_seq (by rfl) mL PySem.boot_len (pa_cons (pe_ix ix_list (pv 0) pe_int (fun _ _ => rfl)) pa_nil)) (nomark _))
        (pss_cons (ps_set (i := 3) scNext.nd rfl (.inl rfl) (pe_ix ix_list (pe_ix ix_list (pv 0) pe_int (fun _ _ => rfl)) (pe_op op_sub (pe_ix ix_list (pv 0) pe_int (fun _ _ => rfl)) pe_int) (fun _ _ => rfl)))
        (pss_cons (ps_asg (pe_ifExp (pt_cmpR op_ge (pv 3) (pe_op op_pow pe_int pe_int) (nomark _)) (pe_op op_fdiv (pv 3) (pv 1)) pe_int) (pg_sub (pv 0) pe_int set_list))
        (pss_one (ps_ret (pe_op op_mod (pv 3) (pv 1)))))) pss_nil)
      (pss_cons (ps_asg (pe_op op_mod (pe_op op_mul (pe_ix ix_list (pv 0) pe_int (fun _ _ => rfl)) pe_int) pe_int) (pg_sub (pv 0) pe_int set_list))
      (pss_one (ps_ret (pe_op op_mod (pe_op op_fdiv (pe_ix ix_list (pv 0) pe_int (fun _ _ => rfl)) pe_int) (pv 1))))))), ?_⟩
    obtain ⟨i, m, c, hp, i0, m0, m1⟩ := d.at_
    have D0 := Drew.refl d
    refine ⟨_, rfl, p, _, _, _, rfl, rfl, .of hp, rfl, _, _, rfl, rfl, _, rfl, ?_⟩
    refine ite2 (fun hc => ?_) (fun hc => ?_)
    · refine ⟨_, rfl, p, _, _, _, rfl, rfl, .of hp, rfl, _, rfl, _, _, rfl, rfl, n0, ?_⟩
      refine ⟨_, rfl, p, _, _, _, rfl, rfl, .of hp, rfl, _, rfl, _, _, rfl, rfl, ⟨n0, n1⟩, _, rfl, p, _, _, 3, rfl, rfl, hp, rfl, _, rfl, ?_⟩
      exact k _ _ (Int.emod_nonneg _ (by omega)) (Int.emod_lt_of_pos _ n0) (dice_set D0 i0 m0 m1 rfl)
    · refine ⟨_, rfl, p, _, _, _, rfl, rfl, .of hp, rfl, _, _, rfl, rfl, _, rfl, p, _, _, 1, rfl, rfl, hp, rfl, ?_⟩
      have D1 : Drew K p a ns H (upd H p (.lst [.ref a, .int (i + 1), .int m, .int c])) := dice_set D0 (by omega) m0 m1 rfl
      have e1 : (upd H p (.lst [.ref a, .int (i + 1), .int m, .int c])) p = some (.lst [.ref a, .int (i + 1), .int m, .int c]) := upd_same
      refine ⟨_, rfl, p, _, _, _, rfl, rfl, .of e1, rfl, _, rfl, p, _, _, _, rfl, rfl, .of e1, rfl, a, _, rfl, .inl D1.d.sc.seq, _, _, rfl, rfl, _, rfl, ?_⟩
      refine ite2 (fun hl => ?_) (fun hl => ?_)
      · have hl' : i + 1 ≤ ((ns.map V.int).length : Int) := of_decide_eq_true hl
        rw [List.length_map] at hl'
        obtain ⟨j, rfl⟩ : ∃ j : Nat, i = (j : Int) := ⟨i.toNat, by omega⟩
        have hj : j < ns.length := by omega
        have hx : (ns.map V.int)[j]? = some (V.int ns[j]) := by rw [List.getElem?_map, List.getElem?_eq_getElem hj]; rfl
        refine ⟨_, rfl, p, _, _, _, rfl, rfl, .of e1, rfl, _, rfl, p, _, _, _, rfl, rfl, .of e1, rfl, _, _, rfl, rfl, a, _, _, _, rfl, rfl, D1.d.sc.seq, at_of (by omega) hx, ?_⟩
        refine ⟨_, rfl, _, _, rfl, rfl, ⟨by decide, by decide, by decide⟩, _, _, rfl, rfl, _, rfl, ?_⟩
        refine ite2 (fun hg => ?_) (fun hg => ?_)
        · refine ⟨_, rfl, _, rfl, _, _, rfl, rfl, ⟨n0, n1⟩, _, rfl, p, _, _, 3, rfl, rfl, e1, rfl, _, rfl, _, rfl, _, _, rfl, rfl, n0, ?_⟩
          exact k _ _ (Int.emod_nonneg _ (by omega)) (Int.emod_lt_of_pos _ n0) (dice_set D1 (by omega) m0 m1 rfl)
        · refine ⟨_, rfl, p, _, _, 3, rfl, rfl, e1, rfl, _, rfl, _, rfl, _, _, rfl, rfl, n0, ?_⟩
          exact k _ _ (Int.emod_nonneg _ (by omega)) (Int.emod_lt_of_pos _ n0) (dice_set D1 (by omega) m0 m1 rfl)
      · refine ⟨_, rfl, p, _, _, _, rfl, rfl, .of e1, rfl, _, _, rfl, rfl, .inl ⟨by omega, by omega⟩, _, _, rfl, rfl, (by show (0 : Int) < 2147483647; decide), _, rfl, p, _, _, 2, rfl, rfl, e1, rfl, ?_⟩
        have D2 : Drew K p a ns H (upd (upd H p (.lst [.ref a, .int (i + 1), .int m, .int c])) p (.lst [.ref a, .int (i + 1), .int (m * 48271 % 2147483647), .int c])) :=
          dice_set D1 (by omega) (Int.emod_nonneg _ (by decide)) (Int.emod_lt_of_pos _ (by decide)) rfl
        refine ⟨_, rfl, p, _, _, _, rfl, rfl, .of upd_same, rfl, _, _, rfl, rfl, ⟨by decide, by decide⟩, _, rfl, _, _, rfl, rfl, n0, ?_⟩
        exact k _ _ (Int.emod_nonneg _ (by omega)) (Int.emod_lt_of_pos _ n0) D2
end
end Sk


namespace Sk
open PySem PySem.Spec PyProof.Rows L2
abbrev sLike : Stmt := top 19
structure TxLike (mg : Str → Option Value) : Prop where
  isi : mg "isinstance" = none
  bool : mg "bool" = none
  str : mg "str" = none
  int : mg "int" = none
  dict : mg "dict" = none
  tuple : mg "tuple" = none
  list : mg "list" = none
  len : mg "len" = none
  range : mg "range" = none
theorem scLike : FnScope ["_law_found", "_law_due", "_law_k"] ["_law_found", "_law_due"] (defScope sLike) := ⟨rfl, rfl, rfl, by decide +kernel, rfl, by decide +kernel, by decide +kernel⟩
section
variable {P : Program} {w : World} {K : PySem.W.Frag} {mg : Str → Option Value} {base : Heap} {f : Addr} {fd : FuncData}
theorem ok_like (F : FnP K "_law_like" "_law_like" sLike f fd) (T : TxLike mg) (g : mg "_law_like" = some (.ref f)) : ∀ n, FnOk P w K mg base CX0 (n + 1) f fd ["_law_found", "_law_due"] (spLike K n)
  | 0 => by
    refine fok F scLike (fun vs H Q E h => ?_) (fun cdv A outer s H vs Q E hr h => ?_)
    · obtain ⟨x, y, d, rfl, _⟩ := h
      rfl
    · obtain ⟨x, y, d, _, _, _, z, _⟩ := h
      cases z
  | n + 1 => by
    have G : FnOk P w K mg base CX0 (n + 1) f fd ["_law_found", "_law_due"] (spLike K n) := ok_like F T g n
    have b : Binds K fd ["_law_found", "_law_due"] [] := F.bindsN fun _ _ _ _ _ _ us hl => match us, hl with | [_, _], _ => rfl
    refine fok F scLike (fun vs H Q E h => ?_) (fun cdv A outer s H vs Q E hr h => ?_)
    · obtain ⟨x, y, d, rfl, _⟩ := h
      rfl
    · obtain ⟨x, y, d, rfl, dx, dy, z, k⟩ := h
      have tx := dp_ty dx
      have ty := dp_ty dy
      refine ⟨_, pss_cons (ps_if (pt_val (pe_callB call_isi (by rfl) T.isi boot_isinstance (pa_cons (pv 1) (pa_cons (pe_bltn (v := .ty "bool") (by rfl) T.bool (by decide +kernel) rfl) pa_nil))))
          (pss_one (ps_ret (pe_and (pe_callB call_isi (by rfl) T.isi boot_isinstance (pa_cons (pv 0) (pa_cons (pe_bltn (v := .ty "bool") (by rfl) T.bool (by decide +kernel) rfl) pa_nil))) (pe_one (pe_cmpR op_eq (pv 0) (pv 1) (nomark _)))))) pss_nil)
        (pss_cons (ps_if (pt_val (pe_callB call_isi (by rfl) T.isi boot_isinstance (pa_cons (pv 1) (pa_cons (pe_bltn (v := .ty "str") (by rfl) T.str (by decide +kernel) rfl) pa_nil))))
          (pss_one (ps_ret (pe_and (pe_callB call_isi (by rfl) T.isi boot_isinstance (pa_cons (pv 0) (pa_cons (pe_bltn (v := .ty "str") (by rfl) T.str (by decide +kernel) rfl) pa_nil))) (pe_one (pe_cmpR op_eq (pv 0) (pv 1) (nomark _)))))) pss_nil)
        (pss_cons (ps_if (pt_val (pe_callB call_isi (by rfl) T.isi boot_isinstance (pa_cons (pv 1) (pa_cons (pe_bltn (v := .ty "int") (by rfl) T.int (by decide +kernel) rfl) pa_nil))))
          (pss_one (ps_ret (pe_and (pe_callB call_isi (by rfl) T.isi boot_isinstance (pa_cons (pv 0) (pa_cons (pe_bltn (v := .ty "int") (by rfl) T.int (by decide +kernel) rfl) pa_nil)))
            (pe_and (pe_not (pe_callB call_isi (by rfl) T.isi boot_isinstance (pa_cons (pv 0) (pa_cons (pe_bltn (v := .ty "bool") (by rfl) T.bool (by decide +kernel) rfl) pa_nil)))) (pe_one (pe_cmpR op_eq (pv 0) (pv 1) (nomark _))))))) pss_nil)
        (pss_cons (ps_if (pt_cmpR op_isN (pv 1) pe_non (nomark _)) (pss_one (ps_ret (pe_cmpR op_isN (pv 0) pe_non (nomark _)))) pss_nil)
        (pss_cons (ps_if (pt_val (pe_callB call_isi (by rfl) T.isi boot_isinstance (pa_cons (pv 1) (pa_cons (pe_bltn (v := .ty "dict") (by rfl) T.dict (by decide +kernel) rfl) pa_nil)))) pss_never pss_nil)
        (pss_cons (ps_if (PW.pt (pw_or (pt_cmpR op_ne (pe_callB call_isi (by rfl) T.isi boot_isinstance (pa_cons (pv 1) (pa_cons (pe_bltn (v := .ty "tuple") (by rfl) T.tuple (by decide +kernel) rfl) pa_nil)))
              (pe_callB call_isi (by rfl) T.isi boot_isinstance (pa_cons (pv 0) (pa_cons (pe_bltn (v := .ty "tuple") (by rfl) T.tuple (by decide +kernel) rfl) pa_nil))) (nomark _))
            (pw_or1 (pt_cmpR op_ne (pe_callB call_isi (by rfl) T.isi boot_isinstance (pa_cons (pv 1) (pa_cons (pe_bltn (v := .ty "list") (by rfl) T.list (by decide +kernel) rfl) pa_nil)))
              (pe_callB call_isi (by rfl) T.isi boot_isinstance (pa_cons (pv 0) (pa_cons (pe_bltn (v := .ty "list") (by rfl) T.list (by decide +kernel) rfl) pa_nil))) (nomark _))))) (pss_one (ps_ret pe_bl)) pss_nil)
        (pss_cons (ps_if (pt_cmpR op_ne (pe_callB call_len_seq (by rfl) T.len PySem.boot_len (pa_cons (pv 0) pa_nil)) (pe_callB call_len_seq (by rfl) T.len PySem.boot_len (pa_cons (pv 1) pa_nil)) (nomark _)) (pss_one (ps_ret pe_bl)) pss_nil)
        (pss_cons (ps_for PassesOwn.never rfl (pi_range1 (by rfl) T.range (pa_cons (pe_callB call_len_seq (by rfl) T.len PySem.boot_len (pa_cons (pv 1) pa_nil)) pa_nil)) (pg_name (i := 2) scLike.nd rfl (.inl rfl))
          (pss_one (ps_if (pt_not (pt_val (pe_call G hr rfl g F.kp b .nil pass0 (pa_cons (pe_ix ix_seq (pv 0) (pv 2) (fun _ _ => rfl)) (pa_cons (pe_ix ix_seq (pv 1) (pv 2) (fun _ _ => rfl)) pa_nil))))) (pss_one (ps_ret pe_bl)) pss_nil)))
        (pss_one (ps_ret pe_bl))))))))), ?_⟩
      cases z with
      | non =>
        cases dx
        cases dy
        have tx : TyX K H _ (.type "NoneType") := tx
        have ty : TyX K H _ (.type "NoneType") := ty
        refine ⟨_, rfl, _, _, _, _, _, rfl, .ty _, ty, kit_ty (r := false) (by decide +kernel), _, rfl, iteF ?_⟩
        refine ⟨_, rfl, _, _, _, _, _, rfl, .ty _, ty, kit_ty (r := false) (by decide +kernel), _, rfl, iteF ?_⟩
        refine ⟨_, rfl, _, _, _, _, _, rfl, .ty _, ty, kit_ty (r := false) (by decide +kernel), _, rfl, iteF ?_⟩
        exact ⟨_, rfl, rfl, _, rfl, iteT ⟨_, rfl, rfl, k⟩⟩
      | bl _ c =>
        cases dx
        cases dy
        have tx : TyX K H _ (.type "bool") := tx
        have ty : TyX K H _ (.type "bool") := ty
        refine ⟨_, rfl, _, _, _, _, _, rfl, .ty _, ty, kit_ty (r := true) (by decide +kernel), _, rfl, iteT ?_⟩
        refine ⟨_, rfl, _, _, _, _, _, rfl, .ty _, tx, kit_ty (r := true) (by decide +kernel), _, rfl, iteT ⟨_, rfl, _, rfl, rfl, ?_⟩⟩
        rw [dec_self]
        exact k
      | str _ c =>
        cases dx
        cases dy
        have tx : TyX K H _ (.type "str") := tx
        have ty : TyX K H _ (.type "str") := ty
        refine ⟨_, rfl, _, _, _, _, _, rfl, .ty _, ty, kit_ty (r := false) (by decide +kernel), _, rfl, iteF ?_⟩
        refine ⟨_, rfl, _, _, _, _, _, rfl, .ty _, ty, kit_ty (r := true) (by decide +kernel), _, rfl, iteT ?_⟩
        refine ⟨_, rfl, _, _, _, _, _, rfl, .ty _, tx, kit_ty (r := true) (by decide +kernel), _, rfl, iteT ⟨_, rfl, _, rfl, rfl, ?_⟩⟩
        rw [dec_self]
        exact k
      | int _ c =>
        cases dx
        cases dy
        have tx : TyX K H _ (.type "int") := tx
        have ty : TyX K H _ (.type "int") := ty
        refine ⟨_, rfl, _, _, _, _, _, rfl, .ty _, ty, kit_ty (r := false) (by decide +kernel), _, rfl, iteF ?_⟩
        refine ⟨_, rfl, _, _, _, _, _, rfl, .ty _, ty, kit_ty (r := false) (by decide +kernel), _, rfl, iteF ?_⟩
        refine ⟨_, rfl, _, _, _, _, _, rfl, .ty _, ty, kit_ty (r := true) (by decide +kernel), _, rfl, iteT ?_⟩
        refine ⟨_, rfl, _, _, _, _, _, rfl, .ty _, tx, kit_ty (r := true) (by decide +kernel), _, rfl, iteT ?_⟩
        refine ⟨_, rfl, _, _, _, _, _, rfl, .ty _, tx, kit_ty (r := false) (by decide +kernel), _, rfl, _, rfl, iteT ⟨_, rfl, _, rfl, rfl, ?_⟩⟩
        rw [dec_self]
        exact k
      | @lst _ ds l hz =>
        cases dx with
        | @lst a xs _ hx ax =>
          cases dy with
          | @lst c ys _ hy ay =>
            have tx : TyX K H _ (.type "list") := tx
            have ty : TyX K H _ (.type "list") := ty
            refine ⟨_, rfl, _, _, _, _, _, rfl, .ty _, ty, kit_ty (r := false) (by decide +kernel), _, rfl, iteF ?_⟩
            refine ⟨_, rfl, _, _, _, _, _, rfl, .ty _, ty, kit_ty (r := false) (by decide +kernel), _, rfl, iteF ?_⟩
            refine ⟨_, rfl, _, _, _, _, _, rfl, .ty _, ty, kit_ty (r := false) (by decide +kernel), _, rfl, iteF ?_⟩
            refine ⟨_, rfl, rfl, _, rfl, iteF ?_⟩
            refine ⟨_, rfl, _, _, _, _, _, rfl, .ty _, ty, kit_ty (r := false) (by decide +kernel), _, rfl, iteF ?_⟩
            refine ⟨_, rfl, _, _, _, _, _, rfl, .ty _, ty, kit_ty (r := false) (by decide +kernel), _, rfl, _, _, _, _, _, rfl, .ty _, tx, kit_ty (r := false) (by decide +kernel), rfl, _, rfl, iteF ?_⟩
            refine ⟨_, rfl, _, _, _, _, _, rfl, .ty _, ty, kit_ty (r := true) (by decide +kernel), _, rfl, _, _, _, _, _, rfl, .ty _, tx, kit_ty (r := true) (by decide +kernel), rfl, _, rfl, iteF ?_⟩
            refine ⟨_, rfl, _, _, rfl, .inl hx, _, rfl, _, _, rfl, .inl hy, rfl, _, rfl, ?_⟩
            have el : xs.length = ys.length := (DpAll.len ax).trans (DpAll.len ay).symm
            refine iteNS (by rw [el]) ?_
            refine ⟨_, rfl, _, _, rfl, .inl hy, _, rfl, by omega, by have := DpAll.len ay; omega, for_range (lo := 0) (n := ys.length) (fun i σ H' => H' = H ∧ ∃ v : Option V, σ = [some (.ref a), some (.ref c), v]) ⟨rfl, none, rfl⟩ ?_ ?_⟩
            · rintro i σ H' hi ⟨rfl, v, rfl⟩
              have h1 : xs[i]? = some (xs[i]'(by omega)) := List.getElem?_eq_getElem (by omega)
              have h2 : ys[i]? = some (ys[i]'hi) := List.getElem?_eq_getElem hi
              obtain ⟨d1, e1, p1⟩ := DpAll.at_ ax h1
              obtain ⟨d2, e2, p2⟩ := DpAll.at_ ay h2
              have ed : d1 = d2 := Option.some.inj (e1.symm.trans e2)
              subst ed
              refine ⟨_, rfl, _, rfl, .inl ⟨_, _, _, _, rfl, rfl, hx, at_of (by omega) h1, _, rfl, _, rfl, .inl ⟨_, _, _, _, rfl, rfl, hy, at_of (by omega) h2, ?_⟩⟩⟩
              exact ⟨_, _, d1, rfl, p1, p2, hz _ (List.mem_of_getElem? e1), _, rfl, iteF ⟨rfl, _, rfl⟩⟩
            · rintro σ H' ⟨rfl, v, rfl⟩
              exact k
      | @tup _ ds l hz =>
        cases dx with
        | @tup a xs _ hx ax =>
          cases dy with
          | @tup c ys _ hy ay =>
            have tx : TyX K H _ (.type "tuple") := tx
            have ty : TyX K H _ (.type "tuple") := ty
            refine ⟨_, rfl, _, _, _, _, _, rfl, .ty _, ty, kit_ty (r := false) (by decide +kernel), _, rfl, iteF ?_⟩
            refine ⟨_, rfl, _, _, _, _, _, rfl, .ty _, ty, kit_ty (r := false) (by decide +kernel), _, rfl, iteF ?_⟩
            refine ⟨_, rfl, _, _, _, _, _, rfl, .ty _, ty, kit_ty (r := false) (by decide +kernel), _, rfl, iteF ?_⟩
            refine ⟨_, rfl, rfl, _, rfl, iteF ?_⟩
            refine ⟨_, rfl, _, _, _, _, _, rfl, .ty _, ty, kit_ty (r := false) (by decide +kernel), _, rfl, iteF ?_⟩
            refine ⟨_, rfl, _, _, _, _, _, rfl, .ty _, ty, kit_ty (r := true) (by decide +kernel), _, rfl, _, _, _, _, _, rfl, .ty _, tx, kit_ty (r := true) (by decide +kernel), rfl, _, rfl, iteF ?_⟩
            refine ⟨_, rfl, _, _, _, _, _, rfl, .ty _, ty, kit_ty (r := false) (by decide +kernel), _, rfl, _, _, _, _, _, rfl, .ty _, tx, kit_ty (r := false) (by decide +kernel), rfl, _, rfl, iteF ?_⟩
            refine ⟨_, rfl, _, _, rfl, .inr hx, _, rfl, _, _, rfl, .inr hy, rfl, _, rfl, ?_⟩
            have el : xs.length = ys.length := (DpAll.len ax).trans (DpAll.len ay).symm
            refine iteNS (by rw [el]) ?_
            refine ⟨_, rfl, _, _, rfl, .inr hy, _, rfl, by omega, by have := DpAll.len ay; omega, for_range (lo := 0) (n := ys.length) (fun i σ H' => H' = H ∧ ∃ v : Option V, σ = [some (.ref a), some (.ref c), v]) ⟨rfl, none, rfl⟩ ?_ ?_⟩
            · rintro i σ H' hi ⟨rfl, v, rfl⟩
              have h1 : xs[i]? = some (xs[i]'(by omega)) := List.getElem?_eq_getElem (by omega)
              have h2 : ys[i]? = some (ys[i]'hi) := List.getElem?_eq_getElem hi
              obtain ⟨d1, e1, p1⟩ := DpAll.at_ ax h1
              obtain ⟨d2, e2, p2⟩ := DpAll.at_ ay h2
              have ed : d1 = d2 := Option.some.inj (e1.symm.trans e2)
              subst ed
              refine ⟨_, rfl, _, rfl, .inr (.inl ⟨_, _, _, _, rfl, rfl, hx, at_of (by omega) h1, _, rfl, _, rfl, .inr (.inl ⟨_, _, _, _, rfl, rfl, hy, at_of (by omega) h2, ?_⟩)⟩)⟩
              exact ⟨_, _, d1, rfl, p1, p2, hz _ (List.mem_of_getElem? e1), _, rfl, iteF ⟨rfl, _, rfl⟩⟩
            · rintro σ H' ⟨rfl, v, rfl⟩
              exact k
end
end Sk


/-! Own errors: made where nothing is handled, their base's __init__ called by its class's name. -/
namespace Sk
open PySem PySem.Spec PyProof.Rows L2
/-- B is an own class whose __init__ is that of ValueError -/
structure BaseI (K : PySem.W.Frag) (B : Addr) (mc : Value) : Prop where
  rd : PySem.W.readsIn K B mc = true
  ga : PySem.W.specialIn K (.ref B) "__getattribute__" = some (some (.builtin "type.__getattribute__"))
  at_ : PySem.W.findCls K (.ref B) mc "__init__" = some (.val (.builtin "ValueError.__init__"))
section
variable {X : Cx} {e : Expr} {es : List Expr} {ta : TA} {p1 p2 pos : Pos} {x : Str} {B : Addr} {mc : Value}
theorem pe_ownInit {pl : Sem Bool} (hg : Gl X x) (hm : X.mg x = some (.ref B)) (T : BaseI X.K B mc) (ha : PA X (e :: es) ta) (hdb : (x == ("__debug__" : Str)) = false := by decide)
    (hform : eval (.Call (.Attribute (.Name x p1) "__init__" p2) (e :: es) [] pos) X.env = (do
      let ov ← eval (.Name x p1) X.env
      standAt p2.atName
      let (g, first) ← holding [ov] (getMethod ov "__init__" pl)
      callWith pos g first (backTo pos (starEach (e :: es) X.env)) (backToKw pos (keywordEach [] X.env))) := by rfl)
    (hst : starEach (e :: es) X.env = (false, eval e X.env) :: starEach es X.env := by rfl) (hno : (backTo pos (starEach es X.env)).any (·.1) = false := by rfl) :
    PE X (.Call (.Attribute (.Name x p1) "__init__" p2) (e :: es) [] pos) (tVeI X.K ta) := by
  refine ⟨fun pins s σ H Q I h => PySem.W.methodCall_KW (ld_glob I hg hm ?_ hdb) hform⟩
  refine PySem.W.method_cls I.kIn T.ga (PySem.W.cls_value I.kIn T.rd T.at_ (by decide +kernel) ?_)
  show wpAny _ _ (callWith pos (Value.builtin "ValueError.__init__") [] (backTo pos (starEach (e :: es) X.env)) []) _ _ _
  refine PyProof.Rows.callWith_method1 (thn (ha.run pos pins _ σ H _ (I.tok _) h) fun us s1 z => ?_) hst hno
  obtain ⟨vs, H1, I1, r1, a, C, ws, ev, hl, TC, ea, q⟩ := z
  subst ev
  cases r1 with
  | @cons _ u0 _ ur ra rw' =>
    have e0 : u0 = Value.ref a := ra
    subst e0
    have hz : ur.length ≤ sizeLine := by
      have := Paired.length rw'
      rw [sizeLine_eq]
      omega
    exact oinit_ok TC I1 ea hz fun s' J => ⟨.non, H1, J, rfl, q⟩
end
/-- an own error of the class x, made where nothing is handled: its context is None -/
theorem pmkN {X : Cx} {CX : CXT} {x : Str} {C fI : Addr} {k : Nat} {fd : FuncData} {ps : List Str} {sp : Sp} {e : Expr} {es : List Expr} {ta : TA} {p pos : Pos} (T : OexC X.K C)
    (hi : PySem.W.findIn X.K (.ref C) "__init__" = some (some (.ref fI))) (ht : PySem.W.typeIn X.K (.ref fI) = some (.type "function"))
    (FI : FnOk X.prog X.w X.K X.mg X.base CX k fI fd ps sp) (hr : Room (k + 1) X.A) (hb : Binds X.K fd ps []) (hx : Passes CX X E0) (hg : Gl X x) (hm : X.mg x = some (.ref C)) (ha : PA X (e :: es) ta)
    (hdb : (x == ("__debug__" : Str)) = false := by decide) (hst : starEach (e :: es) X.env = (false, eval e X.env) :: starEach es X.env := by rfl) (hno : (backTo pos (starEach es X.env)).any (·.1) = false := by rfl) :
    L2N.PMk X (.Call (.Name x p) (e :: es) [] pos) (tMkO C sp [] ta) := by
  intro pins s σ H Q I h
  obtain ⟨nm, q, N, bs, bm, sn, sub, ab, col, dd, k0, k1, k2, k3, k5, hC, hbm⟩ := T.cls
  refine wpAny_Call_Name_kw (ld_glob I hg hm ?_ hdb)
  refine PySem.W.callWith_K (h₀ := X.base) I.ok.mod.kin T.kC (thn (ha.run pos pins s σ H _ I h) fun us s1 z => ?_) hst hno
  obtain ⟨vs, H1, I1, r1, hz, q1⟩ := z
  refine ⟨I1.kIn, ?_⟩
  show wpAny _ _ (call (.ref C) us) _ _ _
  obtain ⟨hp, g, dr, tk, os⟩ := s1
  let a := hp.objs.size + 1
  have la : hp.objs.size ≤ a := Nat.le_succ _
  have na : H1 a = none := I1.hok.fresh la
  have hq := q1 a na
  rw [List.append_nil] at hq
  let h2 := (hp.push (PySem.W.kdv_tup us)).push (PySem.HandSPX.excO C hp.objs.size)
  have kk : ∀ b o, hp.get? b = some o → h2.get? b = some o := fun b o z => Heap.get?_push_of_some _ (Heap.get?_push_of_some _ z)
  have there : h2.get? a = some (PySem.HandSPX.excO C hp.objs.size) := by
    show ((hp.push (PySem.W.kdv_tup us)).push (PySem.HandSPX.excO C hp.objs.size)).get? (hp.objs.size + 1) = _
    heap_get
  have I2 : Inv X pins σ (upd H1 a (exo a C none)) ⟨h2, g, dr, tk, os⟩ := I1.laid (t' := tk) (a := a) (o := exo a C none) (h' := h2) kk la (exo_ok there)
  have r2 : Vals (V.ref a :: vs) (Value.ref a :: us) := .cons rfl r1
  have hlen : (Value.ref a :: us).length = ps.length := by
    rw [← r2.length]
    exact FI.len _ _ _ _ hq
  have hus : us.length ≤ sizeLine := by
    have := Paired.length r1
    rw [sizeLine_eq]
    omega
  have hbind := hb ⟨h2, g, dr, tk, os⟩ (Value.ref a :: us) I2.kIn (by rw [List.append_nil]; exact hlen)
  rw [List.append_nil] at hbind
  refine wpAny_call (PySem.HandSPX.call_own F.excBase_ValueError (fun Y => PySem.HandSPX.refsVE_contains Y bm hbm) (I1.kIn _ _ hC) (PySem.W.looks_findIn I1.kIn hi) (fun self => PySem.W.bind_fn I1.kIn self ht) hus
    (codeAny_mono (FI.run _ X.stack _ _ ⟨Value.ref a :: us, []⟩ (Value.ref a :: us) _ _ E0 (hr.make C us []) (I2.env0.make C us []) hbind r2 hq) fun r s' hq' => ?_))
  cases r with
  | error er => exact hx pins σ _ _ er s' I2 hq'
  | ok fl =>
    cases fl with
    | ret u =>
      obtain ⟨v, H2, os2, bare2, un2, hok2, rv, ev, d, fs, ea, ed, hd1, q2⟩ := hq'
      subst ev
      obtain ⟨h3, g2, d2, t2, os'⟩ := s'
      obtain ⟨t0, G, J, kG, ge, hoe, nd⟩ := mk_end0 (d2 := d2) (t2 := t2) I1 la kk un2 hok2 os2 bare2 ea ed hd1
      exact ⟨rv, a, _, _, ⟨G, g2, d2, t2, os'⟩, _, .ref C, some d, rfl, J, kG, ge, hoe, ⟨rfl, rfl, fun vs z => by cases z; rfl⟩, rfl, rfl, nd, rfl, bare2, raises_own T.exC T.tyC, q2⟩
    | next => exact False.elim hq'
    | brk => exact False.elim hq'
    | cont => exact False.elim hq'
end Sk


/-! Where an error is being handled: lists walked, comprehensions, defs that are told which error it is. -/
namespace Sk
open PySem PySem.Spec PyProof.Rows L2 L2H HotX
/-- a list's iterator at its end, while an error is handled -/
theorem list_end_hot {prog : Program} {w : World} {A : Around} {E : Value → Shared → Prop} {s : Shared} {it l x1 : Addr} {i : Nat} {items : Array Value} {Q : Option Value → Shared → Prop} (hot : HotAt A x1 s.heap) (nx : x1 ≠ it)
    (hit : s.heap.IsListIter it l i) (hl : s.heap.IsList l items) (hx : items[i]? = none) (q : ∀ h', (∀ b o, b ≠ it → s.heap.get? b = some o → h'.get? b = some o) → Q none { s with heap := h' }) : wpAny (model prog w) A (pyNext (.ref it)) Q E s := by
  obtain ⟨oi, e1, e2, e3⟩ := id hit
  obtain ⟨ol, f1, _, nl, f2⟩ := hl
  obtain ⟨hh, o1, v1, g1, g2, g3⟩ := hot
  have li : it < s.heap.objs.size := Heap.lt_size e1
  unfold pyNext
  refine wpAny_bind (wpAny_attempt (wpAny_callSpecial?_slot (name := Str.ofString "__next__") hit.typeIs slot_listiter_next (wpAny_call_entry slot_listiter_next hit.typeIs entry_listiter_next ?_ (args_listiter_next _))))
  show wpAny _ _ (field (.ref it) 0 >>= _) _ _ s
  refine wpAny_bind (wpAny_field e1 e3 (x := .ref l) rfl ?_)
  show wpAny _ _ (if (Value.ref l == Value.none) = true then _ else _) _ _ s
  rw [if_neg (by simp)]
  show wpAny _ _ (field (.ref it) 1 >>= _) _ _ s
  refine wpAny_bind (wpAny_field e1 e3 (x := .int i 0) rfl ?_)
  show wpAny _ _ (seqItems? (.ref l) >>= _) _ _ s
  refine wpAny_bind (wpAny_seqItems f1 f2 ?_)
  simp only [Int.toNat_natCast, hx]
  refine wpAny_bind (wpAny_rule (wpAny_bind (wpAny_setField e1 e3 (by simp) ?_)))
  show wpAny _ _ (newExc (.type "StopIteration") [] >>= _) _ _ _
  refine wpAny_bind ?_
  simp only [newExc, newTuple]
  refine wpAny_bind (wpAny_newObj_type ?_ (by size_fits))
  refine wpAny_bind (m := firstArgMember _ _) (wpAny_of_eq (a := Value.none) (by first | rfl | (simp only [firstArgMember]; rfl)) ?_)
  refine wpAny_newObj_type ?_ (by size_fits)
  have g1' := (Heap.SameBut.update s.heap it (Obj.mapFields (·.setIfInBounds 0 Value.none))).2 x1 nx
  refine raiseNew_hot ⟨hh, o1, v1, Heap.get?_push_of_some _ (Heap.get?_push_of_some _ (g1'.trans g1)), g2, g3⟩ (Nat.ne_of_lt (Heap.lt_size (Heap.get?_push_of_some _ (g1'.trans g1)))) (Heap.get?_push_size _ rfl) rfl
    (by first | (simp; done) | (simp; omega) | (simp only [Array.size_append]; simp; omega)) ?_
  refine wpAny_bind (wpAny_isInstance (T := "StopIteration") (b := true) ⟨_, Heap.get?_update_self _ (Heap.get?_push_size _ rfl) rfl, rfl⟩ isSubtype_stop ?_)
  refine wpAny_pure (q _ fun b o nb e => ?_)
  have e' := ((Heap.SameBut.update s.heap it (Obj.mapFields (·.setIfInBounds 0 Value.none))).2 b nb).trans e
  rw [Heap.get?_update_other _ _ (Nat.ne_of_gt (Heap.lt_size (Heap.get?_push_of_some _ e')))]
  exact Heap.get?_push_of_some _ (Heap.get?_push_of_some _ e')
end Sk
namespace Sk
open PySem PySem.Spec PyProof.Rows L2 L2H HotX
section
variable {X : Cx} {elt tg iter : Expr} {scope : Scope} {own : List (Str × Nat)} {pos : Pos} {tl te : TE} {g : TG}
/-- [elt for target in a list], while an error is handled -/
theorem pe_lcHot (hot : HotC X) (hN : X.N.Nodup) (hl : PE X iter tl) (ok : BlkOk X.N X.env.scope scope own)
    (hg : ∀ (s : Shared) (H : Hp) (C : Addr) (cl : List (Str × Addr)) (fp : List Addr), PG (X.blk s H scope (compEnvC scope cl C X.env) fp) tg g)
    (he : ∀ (s : Shared) (H : Hp) (C : Addr) (cl : List (Str × Addr)) (fp : List Addr), PE (X.blk s H scope (compEnvC scope cl C X.env) fp) elt te)
    (hs : ∀ x, foldedSetIterable iter X.env x = pure x := by intro _; rfl) :
    PE X (.ListComp elt [⟨tg, iter, [], 0⟩] scope pos) (tLc (iList X.K tl) g tYes te (own.map (·.2))) := by
  refine ⟨fun pins s σ H Q I h => ?_⟩
  obtain ⟨p, ⟨hand, v1, pd, pc⟩, pin⟩ := id hot
  have caps : ∀ y ∈ scope.names, y.2 = .free → ∃ c, X.env.cells.lookup y.1 = some c := fun y hy e => (ok.free y hy e).elim (fun k => I.ok.has _ (.inl k)) fun k => I.ok.has _ (.inr k)
  rw [eval_ListComp]
  refine wpAny_comprehension_free (use := none) rfl hs (closure_ok caps) ok.kind (fun y hy e => by rw [ok.uniq y hy, e]) (thn (hl.run pins s σ H _ I h) fun v0 s1 z => ?_)
  obtain ⟨x0, H1, I1, r0, a, ea, ⟨xs0, hq0⟩, q⟩ := z
  subst ea
  cases r0
  obtain ⟨its0, _, pl0, _⟩ := I1.list hq0
  refine wpAny_pyIter_list pl0.isList (wpAny_newObj_type (newEnv_comp ?_) (by show 0 ≤ sizeLine; decide))
  -- the iterator at t, the new list at D
  obtain ⟨t, ht⟩ : ∃ t, t = s1.heap.objs.size := ⟨_, rfl⟩
  obtain ⟨sA, hA⟩ : ∃ sA : Shared, sA = { s1 with heap := s1.heap.push { cls := .type "list_iterator", data := .fields #[.ref a, .int 0 0] } } := ⟨_, rfl⟩
  rw [← ht, ← hA]
  have IA : Inv X pins σ H1 sA := by
    rw [hA]
    exact I1.kept (t' := s1.toks) fun b o e => Heap.get?_push_of_some _ e
  have itA : sA.heap.IsListIter t a 0 := by
    rw [hA, ht]
    exact ⟨_, Heap.get?_push_size _ rfl, rfl, rfl⟩
  have okA : FpOk X pins H1 t := by
    rw [ht]
    exact I1.fpOk (Nat.le_refl _) (I1.hok.fresh (Nat.le_refl _))
  obtain ⟨D, hD⟩ : ∃ D, D = sA.heap.objs.size := ⟨_, rfl⟩
  have nD : H1 D = none := IA.hok.fresh (Nat.le_of_eq hD.symm)
  have lt : t < sA.heap.objs.size := by
    obtain ⟨_, e, _⟩ := itA
    exact Heap.lt_size e
  have tD : t ≠ D := by
    rw [hD]
    exact Nat.ne_of_lt lt
  obtain ⟨W, ⟨m0, w0⟩, turn⟩ := q D nD
  obtain ⟨sB, hB⟩ : ∃ sB : Shared, sB = { sA with heap := sA.heap.push { cls := .type "list", data := .seq ([] : List Value).toArray } } := ⟨_, rfl⟩
  rw [← hD, ← hB]
  obtain ⟨HB, eHB⟩ : ∃ HB : Hp, HB = upd H1 D (.lst []) := ⟨_, rfl⟩
  rw [← eHB] at w0
  have IB : Inv X pins σ HB sB := by
    rw [eHB, hB]
    refine IA.laid (t' := sA.toks) (fun b o e => Heap.get?_push_of_some _ e) (Nat.le_of_eq hD.symm) ⟨Nat.zero_le _, [], 0, .nil, ?_⟩
    rw [hD]
    exact Heap.get?_push_size _ rfl
  have itB : sB.heap.IsListIter t a 0 := itA.at fun o e => by
    rw [hB]
    exact Heap.get?_push_of_some _ e
  have nB : HB t = none := by
    rw [eHB, upd_ne tD]
    exact okA.1
  have okB : FpOk X pins HB t := ⟨nB, okA.2⟩
  have ltB : t < sB.heap.objs.size := by
    obtain ⟨_, e, _⟩ := itB
    exact Heap.lt_size e
  have fB : ∀ b ∈ [t], FpOk X pins HB b ∧ b < sB.heap.objs.size := fun b hb => by
    obtain rfl : b = t := by simpa using hb
    exact ⟨okB, ltB⟩
  -- the handled error
  have pinB := IB.pin p (List.mem_append_left _ pin)
  have pt : p.1 ≠ t := okB.2.2.2.2.2 p (List.mem_append_left _ pin)
  have I4 := block_start IB ok hN fB
  have pg := hg sB HB sB.heap.objs.size (cellsFrom (sB.heap.objs.size + 1) scope.names (cloFrom X.env.cells scope.names [])) [t]
  have pe := he sB HB sB.heap.objs.size (cellsFrom (sB.heap.objs.size + 1) scope.names (cloFrom X.env.cells scope.names [])) [t]
  show codeAny _ _ (.compStart (.ListComp elt [⟨tg, iter, [], 0⟩] scope pos) 0 (.ref t) (.ref D) (compEnvC scope (cellsFrom (sB.heap.objs.size + 1) scope.names (cloFrom X.env.cells scope.names [])) sB.heap.objs.size X.env))
    (compPost (model X.prog X.w) X.A X.xe none (EP X pins σ Q) (.ref D) sB.heap.objs.size) { sB with heap := pushCells (sB.heap.push { cls := .type "dict", data := .dict #[] }) scope.names }
  obtain ⟨ce, ece⟩ : ∃ ce, ce = compEnvC scope (cellsFrom (sB.heap.objs.size + 1) scope.names (cloFrom X.env.cells scope.names [])) sB.heap.objs.size X.env := ⟨_, rfl⟩
  rw [← ece] at I4 pg pe ⊢
  have lce : ce.locals = sB.heap.objs.size := by
    rw [ece]
    rfl
  obtain ⟨sC, hC⟩ : ∃ sC : Shared, sC = { sB with heap := pushCells (sB.heap.push { cls := .type "dict", data := .dict #[] }) scope.names } := ⟨_, rfl⟩
  rw [← hC] at I4 ⊢
  have itC : sC.heap.IsListIter t a 0 := itB.at fun o e => by
    rw [hC]
    exact pushCells_keeps _ _ _ _ (Heap.get?_push_of_some _ e)
  -- within the block
  have fpk : ∀ {σ' : L2.St} {H' : Hp} {s' : Shared}, Inv (X.blk sB HB scope ce [t]) [] σ' H' s' → H' t = none → FpOk (X.blk sB HB scope ce [t]) [] H' t := fun {σ' H' s'} J hn =>
    have m : t ∈ [t] := List.mem_singleton_self t
    ⟨hn, (J.ok.exf t m).1, J.ok.exfs t m, .inl m, fun x c e => (J.ok.exf t m).2 x c e, fun r hr => absurd (show r ∈ ([] : List (Addr × Obj)) ++ [] from hr) (by simp)⟩
  have hotIn : ∀ {σ' : L2.St} {H' : Hp} {s' : Shared}, Inv (X.blk sB HB scope ce [t]) [] σ' H' s' → HotAt X.A p.1 s'.heap := fun {σ' H' s'} J =>
    ⟨hand, p.2, v1, J.base.keep p.1 p.2 pinB.1 pinB.2.1 (fun z => (List.mem_cons.mp (IB.stkSub p.1 (by exact z))).elim pinB.2.2.1 pinB.2.2.2.1) (fun z => pt (by simpa using (show p.1 ∈ [t] from z))), pd, pc⟩
  have loop : codeAny (model X.prog X.w) X.A (.compLoop (.ListComp elt [⟨tg, iter, [], 0⟩] scope pos) 0 (.ref t) (.ref D) ce) (compPost (model X.prog X.w) X.A X.xe none (EP X pins σ Q) (.ref D) sB.heap.objs.size) sC := by
    refine compLoop_any (fun n s' => ∃ i H', Inv (X.blk sB HB scope ce [t]) [] (wipe σ (own.map (·.2))) H' s' ∧ s'.heap.IsListIter t a i ∧ H' t = none ∧ W i n H') ?_ m0 ⟨0, HB, I4, itC, nB, w0⟩
    rintro n s5 ⟨i, H5, I5, it5, n5, w5⟩
    have F5 := fpk I5 n5
    obtain ⟨f0, f1, f2, f3, f4, f5⟩ := F5
    rcases turn i n H5 w5 with ⟨⟨xs, hq, hx⟩, qq⟩ | ⟨⟨xs, x, hq, hx⟩, Nx, hNx, step⟩
    · obtain ⟨its, rv, pl, _⟩ := I5.list hq
      have lv := rv.length
      refine list_end_hot (hotIn I5) pt it5 pl.isList (by simp; omega) fun h' kp => ?_
      have I6 : Inv (X.blk sB HB scope ce [t]) [] (wipe σ (own.map (·.2))) H5 { s5 with heap := h' } := I5.turned (t' := s5.toks) kp f0 f1 f3 f4 f5
      have I7 : Inv X pins σ H5 { s5 with heap := h' } := IB.call' (ch := [t]) I6.os I6.base I6.hok I6.bare fun b hb => ⟨(fB b hb).1.2.2.2.1, (fB b hb).1.2.1, (fB b hb).1.2.2.2.2.1, (fB b hb).1.2.2.2.2.2⟩
      have nC : H5 sB.heap.objs.size = none := by
        have z : H5 ce.locals = none := I6.free
        rw [lce] at z
        exact z
      obtain ⟨m, hn, _⟩ := I6.loc
      have hn' : h'.Ns sB.heap.objs.size m := by
        rw [← lce]
        exact hn
      refine ⟨m, hn', fun h2 sb => ?_⟩
      obtain ⟨u0, u1, _, u3, u4, u5⟩ := IB.fpOk (Nat.le_refl _) nC
      exact ⟨.ref D, H5, I7.turned (t' := s5.toks) (fun b o hb e => (sb.2 b hb).trans e) u0 u1 u3 u4 u5, rfl, qq⟩
    · obtain ⟨its, rv, pl, _⟩ := I5.list hq
      obtain ⟨u, hu, ru⟩ := rv.get hx
      refine wpAny_pyNext_list_item it5 pl.isList (x := u) (by simpa using hu) fun h' it6 sb => ?_
      have I6 : Inv (X.blk sB HB scope ce [t]) [] (wipe σ (own.map (·.2))) H5 { s5 with heap := h' } := I5.turned (t' := s5.toks) (fun b o hb e => (sb.2 b hb).trans e) f0 f1 f3 f4 f5
      obtain ⟨oi, e1, e2, e3⟩ := id it6
      refine go_of (s := { s5 with heap := h' }) e1 e2 e3 (by decide) ?_
      have I6' := I6.pinned (fp := [t]) (fun b hb => by
        obtain rfl : b = t := by simpa using hb
        exact fpk I6 n5) (fun b hb => by
        obtain rfl : b = t := by simpa using hb
        exact ⟨oi, e1, fun v z => by rw [e3] at z; cases z⟩)
      refine thnF (pg.run _ _ _ H5 x u _ I6' ru (step x H5 ⟨rfl, fun ys hy => by rw [I5.list_inj hy hq]; exact hx⟩)) fun _ s8 z8 => ?_
      obtain ⟨σ8, H8, I8, hw8, q8⟩ := z8
      refine wpAny_tests_nil ?_
      rw [if_pos rfl]
      have q8' : te σ8 H8 fun y H4 => ∃ acc, H4 D = some (.lst acc) ∧ acc.length < sizeLine ∧ Nx (upd H4 D (.lst (acc ++ [y]))) := by
        have z : (if true = true then te σ8 H8 (fun y H4 => ∃ acc, H4 D = some (.lst acc) ∧ acc.length < sizeLine ∧ Nx (upd H4 D (.lst (acc ++ [y])))) else Nx H8) := q8
        rw [if_pos rfl] at z
        exact z
      refine thnF (pe.run _ s8 σ8 H8 _ I8 q8') fun y0 s10 z10 => ?_
      obtain ⟨yv, H10, I10, r10, acc, hD10, hz10, nx⟩ := z10
      refine app_ok (X := X.blk sB HB scope ce [t]) I10 hD10 hz10 r10 fun s11 I11 => ?_
      obtain ⟨m', hm, w'⟩ := hNx _ nx
      have keepT := I11.pin (t, oi) (List.mem_append_right _ (List.mem_append_right _ (mem_pinsAt (List.mem_singleton_self t) e1)))
      have hlen : (wipe σ (own.map (·.2))).length = σ8.length := by rw [← hw8, wipe_length]
      refine ⟨m', hm, i + 1, _, (I11.unpinned (pins := [])).weak hlen (fun j v e => ?_), it6.at fun o e => ?_, keepT.2.1, w'⟩
      · rw [← hw8] at e
        exact (wipe_some e).1
      · rw [e1] at e
        cases e
        exact keepT.1
  exact codeAny_compStart_list loop (wpAny_pyIter_listiter itC loop)
end
end Sk


/-! A def that is called where an error is handled, and is told which. -/
namespace Sk
open PySem PySem.Spec PyProof.Rows L2 L2H HotX
/-- sp p: the promise where p is the handled error and its object -/
structure FnE (P : Program) (w : World) (K : PySem.W.Frag) (mg : Str → Option Value) (base : Heap) (CX : CXT) (k : Nat) (f : Addr) (fd : FuncData) (ps : List Str) (sp : Addr × Obj → Sp) : Prop where
  len : ∀ p vs H Q E, sp p vs H Q E → vs.length = ps.length
  run : ∀ (A : Around) (outer : List Env) (s : Shared) (H : Hp) (args : Args) (us : List Value) (vs : List V) (Q : VK) (E : XK) (p : Addr × Obj), RoomH k A → Hot1 A p → PinOk outer H s p → Env0 P w K mg base A outer s H →
    BindsTo s fd args (ps.zip us) → Vals vs us → sp p vs H Q E → codeAny (model P w) A (.call (.ref f) args) (CR CX outer P w H s Q E) s
theorem fn_hot {CX : CXT} {P : Program} {w : World} {K : PySem.W.Frag} {mg : Str → Option Value} {base : Heap} {k : Nat} {f : Addr} {x q : Str} {st : Stmt} {fd : FuncData} {N ps : List Str} {sp : Addr × Obj → Sp} (F : FnP K x q st f fd) (S : FnScope N ps (defScope st))
    (len : ∀ p vs H Q E, sp p vs H Q E → vs.length = ps.length)
    (body : ∀ (cdv : Value) (A : Around) (outer : List Env) (s : Shared) (H : Hp) (vs : List V) (Q : VK) (E : XK) (p : Addr × Obj), Hot1 A p → RoomH k (A.deeper (envOfC q (defScope st) s.heap.objs.size f cdv)) → sp p vs H Q E →
      ∃ t, PSs (cxH CX P w K mg base N q (defScope st) f cdv A outer s H E p) (defBody st) t ∧ t { nx := fun _ H' => Q .non H', rt := Q } (L2.start N vs) H) : FnE P w K mg base CX (k + 1) f fd ps sp := by
  obtain ⟨oc, od, dV, kV, doc, pm, an, cdv, ct, osl, rfl, lk, hcd, _, _⟩ := F.ex
  refine ⟨len, fun A outer s H args us vs Q E p room hot pin e0 hb r hsp => ?_⟩
  have hl := len _ _ _ _ _ hsp
  have old : ∀ b o, base.get? b = some o → s.heap.get? b = some o := fun b o e => (e0.bs b o e).1
  have KX : K.In s.heap := e0.mod.kin.keeps old
  have kinds : ∀ y ∈ ps.zip us, (defScope st).names.lookup y.1 = some .local ∨ ((defScope st).names.lookup y.1 = some .cell ∧ ((cellsFrom (s.heap.objs.size + 1) (defScope st).names []).lookup y.1).isSome = true) := fun y hy =>
    (S.par y.1 (List.of_mem_zip (a := y.1) (b := y.2) hy).1).imp id fun c => ⟨c, PySem.W.cellsFrom_some _ _ _ (.inl c)⟩
  refine codeAny_call_function room.depth (KX _ _ lk) rfl S.co S.gen rfl (PySem.W.codeRec_of KX hcd) (hb _ _ _ _ ?_)
  refine wpAny_newFunctionEnv_cells S.kind kinds fun env he s1 z => ?_
  subst he
  refine ⟨(e0.mod.nolimit.keeps old).keeps z.toInCall.keep, codeAny_func ?_⟩
  obtain ⟨t, ht, hq⟩ := body cdv A outer s H vs Q E p hot (room.deeper _) hsp
  refine wpAny_mono (ht.run [] s1 (L2.start N vs) H _ (inv_startH S pin e0 hl r z) hq) (fun fl s' hs => ?_) fun e s' hs => hs
  cases fl with
  | next =>
    obtain ⟨σ', H', J, q⟩ := hs
    exact ⟨.non, H', J.os, J.bare, J.base, J.hok, rfl, q⟩
  | ret u =>
    obtain ⟨v, σ', H', J, rv, q⟩ := hs
    exact ⟨v, H', J.os, J.bare, J.base, J.hok, rv, q⟩
  | brk =>
    obtain ⟨_, _, _, q⟩ := hs
    exact q.elim
  | cont =>
    obtain ⟨_, _, _, q⟩ := hs
    exact q.elim
section
variable {X : Cx} {CX : CXT} {k : Nat} {f : Addr} {fd : FuncData} {ps : List Str} {sp : Addr × Obj → Sp} {x : Str} {q pos : Pos} {e : Expr} {es : List Expr} {t : TA} {p : Addr × Obj}
/-- its call: p the handled error -/
theorem pe_callE (F : FnE X.prog X.w X.K X.mg X.base CX k f fd ps sp) (hr : RoomH k X.A) (hp : Hot1 X.A p) (hm : p ∈ X.pn) (hg : Gl X x) (gx : X.mg x = some (.ref f)) (hk : PySem.W.keepIn X.K (.ref f) = true) (hb : Binds X.K fd ps []) (hx : Passes CX X E0)
    {sq : Sp} (imp : ∀ vs H Q, sq vs H Q E0 → sp p vs H Q E0) (ha : PA X (e :: es) t) (hdb : (x == ("__debug__" : Str)) = false := by decide) (hst : starEach (e :: es) X.env = (false, eval e X.env) :: starEach es X.env := by rfl) (hno : (backTo pos (starEach es X.env)).any (·.1) = false := by rfl) :
    PE X (.Call (.Name x q) (e :: es) [] pos) (fun σ H Q => t σ H fun vs H1 => sq vs H1 Q E0) := by
  refine ⟨fun pins s σ H Q I h => wpAny_Call_Name_kw (ld_glob I hg gx ?_ hdb)⟩
  refine PySem.W.callWith_K (h₀ := X.base) I.ok.mod.kin hk (thn (ha.run pos pins s σ H _ I h) fun us s1 z => ?_) hst hno
  obtain ⟨vs, H1, I1, r, hs0⟩ := z
  have hs := imp _ _ _ hs0
  refine ⟨I1.kIn, ?_⟩
  have hl : us.length = ps.length := by
    rw [← r.length]
    exact F.len _ _ _ _ _ hs
  have bind := hb s1 us I1.kIn (by rw [List.append_nil]; exact hl)
  rw [List.append_nil] at bind
  obtain ⟨g1, g2, g3, g4, g5⟩ := I1.pin p (List.mem_append_left _ hm)
  refine wpAny_call (codeAny_mono (F.run X.A X.stack s1 H1 ⟨us, []⟩ us vs Q E0 p hr hp ⟨g1, g2, fun z => (List.mem_cons.mp (I1.stkSub p.1 z)).elim g3 g4, g5⟩ I1.env0 bind r hs) fun r' s' hq => ?_)
  cases r' with
  | error er => exact hx pins _ _ _ er s' I1 hq
  | ok fl =>
    cases fl with
    | ret u => exact I1.after hq
    | next => exact hq.elim
    | brk => exact hq.elim
    | cont => exact hq.elim
/-- isinstance of the handled error, of an own class, with or without a dict -/
def rIsH (K : PySem.W.Frag) (D a : Addr) : List V → Hp → VK → Prop := fun xs H Q => ∃ (c : V) (cv : Value) (b : Bool), xs = [.ref a, c] ∧ ClsV c cv ∧ PySem.W.kitOne K (.ref D) cv = some b ∧ Q (.bl b) H
end
end Sk


/-! isinstance of the handled error, in a def that was called there; its fields. -/
namespace Sk
open PySem PySem.Spec PySem.Calls PyProof.Rows L2 L2H HotX
section
open PySem.W
variable {prog : Program} {w : World} {A : Around} {E : Value → Shared → Prop} {s : Shared} {K : Frag} {x D : Addr} {ox : Obj} {od : Option Obj}
theorem find_cls (T : ExcC K D) : findObj K D od "__class__" = some (.bind (.builtin "getset_descriptor.__get__") (.builtin "object.__class__")) := by
  obtain ⟨cd, hc, _⟩ := any_some T.hd
  unfold findObj
  rw [hc, Option.bind_some, T.ha, Option.bind_some]
  simp only [T.hn, T.ht, Option.bind_some]
/-- e.__class__ -/
theorem cls_of_exc {Q : Option Value → Shared → Prop} (T : ExcC K D) (X : K.In s.heap) (I : InstAt s.heap x ox D od) (h : Q (some (.ref D)) { s with toks := s.toks + 1 }) : wpAny (model prog w) A (getAttr? (.ref x) "__class__") Q E s := by
  obtain ⟨hp, g, d, t, os⟩ := s
  have k0 := I.type (M := model prog w)
  have k1 := looks_findIn (M := model prog w) X T.hg
  have k2 := looks_findIn (M := model prog w) X T.hk
  have k3 := looks_find (M := model prog w) X I (find_cls (od := od) T)
  have sub : Looks (model prog w) hp (isInstance (.ref x) (.type "BaseException")) true := k0.andThen (looks_subIn X T.hs)
  have own : (Value.builtin "BaseException.__getattribute__" == Value.builtin "object.__getattribute__") = false := by decide +kernel
  unfold getAttr? getAttrBy? getAttrBy
  refine wpAny_bind (wpAny_mkText (wpAny_bind (wpAny_attempt (wpAny_holding (wpAny_bind (k0.at (wpAny_bind (k1.at ?_))))))))
  show wpAny _ _ (if (onTheHeap (Value.ref D) && Value.builtin "BaseException.__getattribute__" == Value.builtin "object.__getattribute__") = true then _ else _) _ _ _
  rw [own, Bool.and_false, if_neg Bool.false_ne_true]
  unfold getAttrByItsOwn hookBefore
  refine wpAny_bind ?_
  rw [if_pos (show onTheHeap (Value.ref D) = true from rfl)]
  refine k2.at (wpAny_bind (wpAny_attempt (wpAny_holding ?_)))
  unfold callGetattribute
  rw [if_neg (show ¬ ((false && onTheHeap (Value.builtin "BaseException.__getattribute__")) = true) from Bool.false_ne_true)]
  unfold boundAndCalled
  rw [PySem.F.excAttr_ValueError.ga.bind (.ref x)]
  refine wpAny_bind (wpAny_pure ?_)
  show wpAny _ _ (call (.builtin "BaseException.__getattribute__") [.ref x, .str "__class__" t]) _ _ _
  refine wpAny_call (codeAny_call_builtin PySem.F.excAttr_ValueError.ga.plain PySem.F.entry_bexc_ga ?_)
  refine @check_slot (model prog w) _ _ ⟨hp, g, d, t + 1, os⟩ "BaseException.__getattribute__" "BaseException" "__getattribute__" (.ref x) [.str "__class__" t] [] _ (by decide +kernel) (by decide +kernel) sub (PySem.F.args_bexc_ga (.ref x) (.str "__class__" t)) ?_
  unfold Builtin.«object.__getattribute__»
  refine wpAny_bind (wpAny_of_eq (a := ((Value.ref x : Value), [Value.str "__class__" t])) (by first | rfl | (simp only [slotArgs]; rfl)) (wpAny_bind (wpAny_pure (wpAny_bind (k0.at (wpAny_bind (k3.at ?_)))))))
  show wpAny _ _ (holding [Value.builtin "object.__class__"] (call (.builtin "getset_descriptor.__get__") [.builtin "object.__class__", .ref x, .ref D]) >>= ret) _ _ _
  refine wpAny_bind (wpAny_holding (wpAny_call (class_get (s := ⟨hp, g, d, t + 1, os⟩) (ox := ox) (od := od) X I T.hm (wpAny_pure ?_))))
  show wpAny _ _ (handedOut (.ref D)) _ _ _
  rw [handedOut_of (v := .ref D) rfl]
  first
    | exact wpAny_pure (wpAny_pure h)
    | exact wpAny_pure h
    | exact wpAny_pure (wpAny_bind (wpAny_pure (wpAny_pure h)))
theorem kit_exc (T : ExcC K D) : KitX K (.ref x) (.ref D) (fun h => InstAt h x ox D od) where
  ty := fun _ _ _ I => I.type
  it := fun _ _ X _ => by
    obtain ⟨cd, hc, _⟩ := any_some T.hd
    unfold clsIn at hc
    split at hc
    · rename_i ho
      intro A' Q' E' s' k q
      unfold isType loadHead
      exact wpAny_bind (wpAny_loadPart (k _ _ (X _ _ ho)) (wpAny_pure q))
    · cases hc
  ne := fun h tp dd its n sl X htp => by
    obtain ⟨cd, hc, _⟩ := any_some T.hd
    cases e : (Value.ref D == Value.ref tp) with
    | false => rfl
    | true =>
      obtain rfl : D = tp := Value.ref.inj (beq_iff_eq.mp e)
      unfold clsIn at hc
      split at hc
      · rename_i ho
        have z := (X _ _ ho).symm.trans htp
        cases z
      · cases hc
  ca := fun X I k => cls_of_exc T X I k
end
section
variable {X : Cx} {p : Addr × Obj} {D : Addr}
/-- p, an error of the class at D with a dict of its own, is the one handled -/
structure IsErr (p : Addr × Obj) (D d : Addr) : Prop where
  cls : p.2.cls = .ref D
  dict : p.2.dict = some d
  fld : ∃ vs, p.2.data = .fields vs
theorem call_isH {d : Addr} (hm : p ∈ X.pn) (i : IsErr p D d) (T : ExcC X.K D) : CallR X (.builtin "isinstance") (fun xs H Q => (∃ fs, H d = some (.xd fs)) ∧ rIsH X.K D p.1 xs H Q) := by
  intro pins s σ H xs us Q I r h
  obtain ⟨⟨fs, hd⟩, c, cv, b, rfl, k, e, q⟩ := h
  obtain ⟨u1, u2, rfl, r1, r2⟩ := vals2 r
  have e2 := k.eq r2
  subst e2
  cases (show u1 = Value.ref p.1 from r1)
  obtain ⟨get, _⟩ := I.pin p (List.mem_append_left _ hm)
  obtain ⟨vs, hv⟩ := i.fld
  obtain ⟨mA, ⟨o, es, ep, ho, _⟩, _⟩ := (show ObjOk X.prog X.w H s.heap d (.xd fs) from I.hok d _ hd)
  have J : PySem.W.InstAt s.heap p.1 p.2 D (some o) := ⟨get, i.cls, by unfold PySem.W.notCls; rw [hv] <;> rfl, by rw [i.dict]; exact ho⟩
  exact PySem.W.kia_one (kit_exc T) I.kIn J e (fun z => nomatch z) fun tk => ⟨.bl b, H, I.tok tk, rfl, q⟩
/-- n.f, n the handled error, in its own suite -/
theorem pe_xfH {e : Expr} {te : TE} {pos : Pos} {n : Str} {d : Addr} (hm : p ∈ X.pn) (i : IsErr p D d) (T : XfC X.K D) (hno : PySem.W.findIn X.K (.ref D) n = some none) (he : PE X e te) (hb : attributeBase e n X.env (eval e X.env) = eval e X.env := by rfl) :
    PE X (.Attribute e n pos) (fun σ H Q => te σ H fun x H1 => x = .ref p.1 ∧ ∃ (fs : List (Str × V)) (v : V), H1 d = some (.xd fs) ∧ fs.lookup n = some v ∧ Q v H1) := by
  refine ⟨fun pins s σ H Q I h => attr_of hb (thn (he.run pins s σ H _ I h) fun u s1 z => ?_)⟩
  obtain ⟨x, H1, I1, rx, ex, fs, v, ea, l, q⟩ := z
  subst ex
  cases (show u = Value.ref p.1 from rx)
  obtain ⟨get, _⟩ := I1.pin p (List.mem_append_left _ hm)
  obtain ⟨vs, hv⟩ := i.fld
  obtain ⟨mA, hns, hr⟩ := (show ObjOk X.prog X.w H1 s1.heap d (.xd fs) from I1.hok d _ ea)
  obtain ⟨o, ho, hl⟩ := lookIn_ns hns
  obtain ⟨y, hy, ry⟩ := RelO.some_of (v := v) (o := mA n) (by rw [← l]; exact hr n)
  have J : PySem.W.InstAt s1.heap p.1 p.2 D (some o) := ⟨get, i.cls, by unfold PySem.W.notCls; rw [hv] <;> rfl, by rw [i.dict]; exact ho⟩
  exact HandSPX.exc_get I1.kIn J T.ga T.gg T.exC (PySem.W.findObj_own T.hdC hno rfl (by rw [hl, hy])) (handed_of ry) ⟨v, H1, I1.tok _, ry, q⟩
end
end Sk


namespace Sk
open PySem PySem.Spec PyProof.Rows L2 L2H HotX
/-- a promise by the handled error's class, dict and place -/
abbrev ofErr (spz : Value → Option Addr → Addr → Sp) : Addr × Obj → Sp := fun p vs H Q E => spz p.2.cls p.2.dict p.1 vs H Q E ∧ ∃ vs, p.2.data = .fields vs
theorem pe_callZ {X : Cx} {CX : CXT} {k : Nat} {f : Addr} {fd : FuncData} {ps : List Str} {spz : Value → Option Addr → Addr → Sp} {x : Str} {q pos : Pos} {e : Expr} {es : List Expr} {t : TA} {a : Addr} {oe : Obj} {cls : Value} {d : Option Addr} {pn : List (Addr × Obj)}
    (F : FnE X.prog X.w X.K X.mg X.base CX k f fd ps (ofErr spz)) (hr : RoomH k X.A) (hz : L2N.Zn cls d oe) (hf : ∃ vs, oe.data = .fields vs) (hg : Gl X x) (gx : X.mg x = some (.ref f)) (hk : PySem.W.keepIn X.K (.ref f) = true) (hb : Binds X.K fd ps [])
    (hx : Passes CX (X.suite a ((a, oe) :: pn)) E0) (ha : PA (X.suite a ((a, oe) :: pn)) (e :: es) t) (hdb : (x == ("__debug__" : Str)) = false := by decide) (hst : starEach (e :: es) X.env = (false, eval e X.env) :: starEach es X.env := by rfl)
    (hno : (backTo pos (starEach es X.env)).any (·.1) = false := by rfl) : PE (X.suite a ((a, oe) :: pn)) (.Call (.Name x q) (e :: es) [] pos) (fun σ H Q => t σ H fun vs H1 => spz cls d a vs H1 Q E0) := by
  obtain ⟨z1, z2, z3⟩ := hz
  subst z1 z2
  exact pe_callE (X := X.suite a ((a, oe) :: pn)) (q := q) (pos := pos) (p := (a, oe)) F ⟨hr.dp, hr.un⟩ ⟨rfl, hf.choose, hf.choose_spec, z3 _ hf.choose_spec⟩ List.mem_cons_self hg gx hk hb hx (fun vs H Q z => ⟨z, hf⟩) ha hdb hst hno
end Sk


/-! Deeds, values, a pile: what is asked of them, in plain words. -/
namespace Sk
open PySem PySem.Spec PyProof.Rows L2
abbrev sPush : Str := "push"
abbrev sPop : Str := "pop"
/-- a deed as it is handed in: none, or a text and numbers -/
abbrev Row := Option (Str × List Int)
def rowV : Row → List V
  | none => []
  | some (s, is) => .str s :: is.map V.int
def rowD : Row → List PyData
  | none => []
  | some (s, is) => .str s :: is.map PyData.int
def valB (n : Int) : Bool := decide (0 ≤ n) && decide (n ≤ 99)
def okRow : Row → Bool
  | some (s, []) => decide (s = sPop)
  | some (s, [v]) => decide (s = sPush) && valB v
  | _ => false
def isPop : Row → Bool
  | some (s, []) => s == sPop
  | _ => false
def Lay (r : Row) : Prop := SeqAt.shaped (.tuple (rowD r)) = true
inductive Deed where
  | push (v : Int)
  | pop
def Deed.row : Deed → Row
  | .push v => some (sPush, [v])
  | .pop => some (sPop, [])
def Deed.fit : Deed → Prop
  | .push v => 0 ≤ v ∧ v < 100
  | .pop => True
theorem dpAll_ints {K : PySem.W.Frag} {H : Hp} : ∀ is : List Int, DpAll K H (is.map V.int) (is.map PyData.int)
  | [] => .nil
  | i :: is => .cons (.int i) (dpAll_ints is)
theorem row_dp {K : PySem.W.Frag} {H : Hp} {t : Addr} {r : Row} (h : SqT K H t (rowV r)) : Dp K H (.ref t) (.tuple (rowD r)) := by
  refine .tup h ?_
  cases r with
  | none => exact .nil
  | some p => exact .cons (.str _) (dpAll_ints _)
theorem eqv_pop (r : Row) : PyData.eqv (.tuple (rowD r)) (.tuple [.str sPop]) = isPop r := by
  cases r with
  | none => simp [rowD, PyData.eqv, PyData.eqvAll, isPop]
  | some p =>
    obtain ⟨s, is⟩ := p
    cases is with
    | nil => simp [rowD, PyData.eqv, PyData.eqvAll, isPop]
    | cons a l => simp [rowD, PyData.eqv, PyData.eqvAll, isPop]
theorem push_ne_pop : ¬ (sPush = sPop) := by decide +kernel
theorem isPop_ok {r : Row} (h : isPop r = true) : okRow r = true := by
  cases r with
  | none => cases h
  | some p =>
    obtain ⟨s, is⟩ := p
    cases is with
    | nil =>
      have e : s = sPop := by simpa [isPop] using h
      simp [okRow, e]
    | cons a l => cases h
theorem ok_deed {r : Row} (h : okRow r = true) : ∃ d : Deed, r = d.row ∧ d.fit := by
  cases r with
  | none => cases h
  | some p =>
    obtain ⟨s, is⟩ := p
    cases is with
    | nil =>
      have e : s = sPop := by simpa [okRow] using h
      exact ⟨.pop, by rw [e]; rfl, trivial⟩
    | cons v l =>
      cases l with
      | nil =>
        simp [okRow, valB] at h
        obtain ⟨e, h1, h2⟩ := h
        exact ⟨.push v, by rw [e]; rfl, h1, by omega⟩
      | cons a b => cases h
theorem deed_ok {d : Deed} (h : d.fit) : okRow d.row = true := by
  cases d with
  | push v =>
    obtain ⟨h1, h2⟩ : 0 ≤ v ∧ v < 100 := h
    simp [okRow, Deed.row, valB, h1]
    omega
  | pop => simp [okRow, Deed.row]
theorem deed_lay (d : Deed) : Lay d.row := by
  cases d with
  | push v =>
    show SeqAt.shaped (.tuple [.str sPush, .int v]) = true
    have h1 : PyData.canLay0 (.str sPush) = true := by decide +kernel
    simp [SeqAt.shaped, PyData.canLay0, PyData.canLayAll0, PyData.depth, PyData.depthAll] at h1 ⊢
    exact h1
  | pop => show SeqAt.shaped (.tuple [.str sPop]) = true; decide +kernel
/-! ### one behind another -/
/-- an answer -/
def doneV : V := .str "done"
/-- what a deed answers, and the pile behind it, the lowest first -/
def act (pile : List Int) : Deed → V × List Int
  | .push v => (doneV, pile ++ [v])
  | .pop => match pile.getLast? with
    | none => (.non, pile)
    | some v => (.int v, pile.dropLast)
def acts (pile : List Int) (ds : List Deed) : List V × List Int := ds.foldl (fun s d => (s.1 ++ [(act s.2 d).1], (act s.2 d).2)) ([], pile)
/-- the same from answers that stand already -/
def actsFrom (as : List V) (pile : List Int) (ds : List Deed) : List V × List Int := ds.foldl (fun s d => (s.1 ++ [(act s.2 d).1], (act s.2 d).2)) (as, pile)
theorem acts_take {pile : List Int} {ds : List Deed} {i : Nat} {d : Deed} (h : ds[i]? = some d) :
    acts pile (ds.take (i + 1)) = ((acts pile (ds.take i)).1 ++ [(act (acts pile (ds.take i)).2 d).1], (act (acts pile (ds.take i)).2 d).2) := by
  unfold acts
  rw [show ds.take (i + 1) = ds.take i ++ [d] by
    rw [List.take_add_one, h]
    rfl, List.foldl_append]
  rfl
theorem acts_lenA (pile : List Int) : ∀ ds : List Deed, ∀ as : List V, (actsFrom as pile ds).1.length = as.length + ds.length := by
  intro ds
  induction ds generalizing pile with
  | nil => intro as; simp [actsFrom]
  | cons d ds ih =>
    intro as
    have := ih (act pile d).2 (as ++ [(act pile d).1])
    simp [actsFrom] at this ⊢
    omega
theorem act_len (pile : List Int) (d : Deed) : (act pile d).2.length ≤ pile.length + 1 := by
  cases d with
  | push v => simp [act]
  | pop =>
    unfold act
    cases h : pile.getLast? with
    | none => simp
    | some v => simp; omega
theorem acts_lenP : ∀ (ds : List Deed) (as : List V) (pile : List Int), (actsFrom as pile ds).2.length ≤ pile.length + ds.length
  | [], as, pile => by simp [actsFrom]
  | d :: ds, as, pile => by
    have h := acts_lenP ds (as ++ [(act pile d).1]) (act pile d).2
    have h2 := act_len pile d
    have e : actsFrom as pile (d :: ds) = actsFrom (as ++ [(act pile d).1]) (act pile d).2 ds := rfl
    rw [e, List.length_cons]
    omega
theorem acts_len1 (pile : List Int) (ds : List Deed) : (acts pile ds).1.length = ds.length := by
  have h := acts_lenA pile ds []
  rw [show acts pile ds = actsFrom [] pile ds from rfl, h]
  simp
theorem acts_len2 (pile : List Int) (ds : List Deed) : (acts pile ds).2.length ≤ pile.length + ds.length := acts_lenP ds [] pile
/-- an answer read as data -/
def ansD : V → PyData
  | .int i => .int i
  | .str x => .str x
  | _ => .none
def IsAns (v : V) : Prop := v = doneV ∨ v = .non ∨ ∃ i, v = .int i
theorem ans_dp {K : PySem.W.Frag} {H : Hp} {v : V} (h : IsAns v) : Dp K H v (ansD v) := by
  rcases h with h | h | ⟨i, h⟩ <;> (subst h; constructor)
theorem ans_fit {v : V} (h : IsAns v) (n : Nat) : Fits (n + 1) (ansD v) := by
  rcases h with h | h | ⟨i, h⟩ <;> (subst h; constructor)
theorem act_ans (pile : List Int) (d : Deed) : IsAns (act pile d).1 := by
  cases d with
  | push v => exact .inl rfl
  | pop =>
    unfold act
    cases h : pile.getLast? with
    | none => exact .inr (.inl rfl)
    | some v => exact .inr (.inr ⟨v, rfl⟩)
theorem acts_ansA : ∀ (ds : List Deed) (as : List V) (pile : List Int), (∀ v ∈ as, IsAns v) → ∀ v ∈ (actsFrom as pile ds).1, IsAns v
  | [], as, pile, h => h
  | d :: ds, as, pile, h => by
    have e : actsFrom as pile (d :: ds) = actsFrom (as ++ [(act pile d).1]) (act pile d).2 ds := rfl
    rw [e]
    refine acts_ansA ds _ _ fun v hv => ?_
    rcases List.mem_append.mp hv with q | q
    · exact h v q
    · rw [List.mem_singleton.mp q]
      exact act_ans _ _
theorem acts_ans (pile : List Int) (ds : List Deed) : ∀ v ∈ (acts pile ds).1, IsAns v := acts_ansA ds [] pile (fun v h => by cases h)
theorem anss_dp {K : PySem.W.Frag} {H : Hp} : ∀ {vs : List V}, (∀ v ∈ vs, IsAns v) → DpAll K H vs (vs.map ansD)
  | [], _ => .nil
  | v :: vs, h => .cons (ans_dp (h v List.mem_cons_self)) (anss_dp fun u hu => h u (List.mem_cons_of_mem _ hu))
/-! ### refusals -/
/-- the number of the first that is not so -/
def firstNot {α : Type} (p : α → Bool) : List α → Option Nat
  | [] => none
  | x :: xs => if p x then (firstNot p xs).map (· + 1) else some 0
theorem firstNot_some {α : Type} {p : α → Bool} : ∀ {l : List α} {i : Nat}, firstNot p l = some i → (∃ x, l[i]? = some x ∧ p x = false) ∧ ∀ j, j < i → ∃ x, l[j]? = some x ∧ p x = true
  | [], i, h => by cases h
  | x :: xs, i, h => by
    unfold firstNot at h
    by_cases hp : p x = true
    · rw [if_pos hp] at h
      cases e : firstNot p xs with
      | none => rw [e] at h; cases h
      | some k =>
        rw [e] at h
        have ei : k + 1 = i := Option.some.inj h
        subst ei
        obtain ⟨h1, h2⟩ := firstNot_some e
        refine ⟨by simpa using h1, fun j hj => ?_⟩
        cases j with
        | zero => exact ⟨x, rfl, hp⟩
        | succ j => simpa using h2 j (by omega)
    · rw [if_neg hp] at h
      have ei : 0 = i := Option.some.inj h
      subst ei
      exact ⟨⟨x, rfl, by simpa using hp⟩, fun j hj => absurd hj (Nat.not_lt_zero _)⟩
theorem firstNot_none {α : Type} {p : α → Bool} : ∀ {l : List α}, firstNot p l = none → ∀ x ∈ l, p x = true
  | [], _, x, hx => by cases hx
  | y :: ys, h, x, hx => by
    unfold firstNot at h
    by_cases hp : p y = true
    · rw [if_pos hp] at h
      have e : firstNot p ys = none := by
        cases e : firstNot p ys with
        | none => rfl
        | some k => rw [e] at h; cases h
      rcases List.mem_cons.mp hx with q | q
      · rw [q]; exact hp
      · exact firstNot_none e x q
    · rw [if_neg hp] at h
      cases h
theorem firstNot_of {α : Type} {p : α → Bool} : ∀ {l : List α} {i : Nat} {x : α}, l[i]? = some x → p x = false → (∀ j, j < i → ∀ y, l[j]? = some y → p y = true) → firstNot p l = some i
  | [], i, x, h, _, _ => by simp at h
  | y :: ys, 0, x, h, hp, _ => by
    have e : y = x := Option.some.inj h
    subst e
    unfold firstNot
    rw [if_neg (by rw [hp]; exact Bool.false_ne_true)]
  | y :: ys, i + 1, x, h, hp, k => by
    unfold firstNot
    have hy : p y = true := k 0 (Nat.succ_pos i) y rfl
    have e : firstNot p ys = some i := firstNot_of (x := x) (by simpa using h) hp fun j hj z hz => k (j + 1) (Nat.succ_lt_succ hj) z (by simpa using hz)
    rw [if_pos hy, e]
    rfl
theorem firstNot_all {α : Type} {p : α → Bool} : ∀ {l : List α}, (∀ x ∈ l, p x = true) → firstNot p l = none
  | [], _ => rfl
  | y :: ys, h => by
    unfold firstNot
    rw [if_pos (h y List.mem_cons_self), firstNot_all fun x hx => h x (List.mem_cons_of_mem _ hx)]
    rfl
/-- a list of deeds' tuples -/
def Rows (K : PySem.W.Frag) (H : Hp) (ts : List Addr) (rs : List Row) : Prop := Paired (fun t r => SqT K H t (rowV r)) ts rs
theorem Rows.len {K : PySem.W.Frag} {H : Hp} {ts : List Addr} {rs : List Row} (h : Rows K H ts rs) : ts.length = rs.length := Paired.length h
theorem Rows.at_ {K : PySem.W.Frag} {H : Hp} : ∀ {ts : List Addr} {rs : List Row} {i : Nat} {t : Addr}, Rows K H ts rs → ts[i]? = some t → ∃ r, rs[i]? = some r ∧ SqT K H t (rowV r)
  | _, _, i, t, .nil, e => by simp at e
  | _, _, 0, t, .cons h _, e => by
    have q := Option.some.inj e
    subst q
    exact ⟨_, rfl, h⟩
  | _, _, i + 1, t, .cons _ hs, e => by
    obtain ⟨r, q1, q2⟩ := Rows.at_ (i := i) (t := t) hs (by simpa using e)
    exact ⟨r, by simpa using q1, q2⟩
theorem Rows.mono {K : PySem.W.Frag} {H H' : Hp} (k : ∀ t xs, SqT K H t xs → SqT K H' t xs) : ∀ {ts : List Addr} {rs : List Row}, Rows K H ts rs → Rows K H' ts rs
  | _, _, .nil => .nil
  | _, _, .cons h hs => .cons (k _ _ h) (Rows.mono k hs)
theorem Rows.append {K : PySem.W.Frag} {H : Hp} : ∀ {ts us : List Addr} {rs qs : List Row}, Rows K H ts rs → Rows K H us qs → Rows K H (ts ++ us) (rs ++ qs)
  | _, _, _, _, .nil, h => h
  | _, _, _, _, .cons a b, h => .cons a (Rows.append b h)
theorem Rows.take {K : PySem.W.Frag} {H : Hp} (n : Nat) : ∀ {ts : List Addr} {rs : List Row}, Rows K H ts rs → Rows K H (ts.take n) (rs.take n) := by
  induction n with
  | zero => intro ts rs h; exact .nil
  | succ n ih =>
    intro ts rs h
    cases h with
    | nil => exact .nil
    | cons a b => exact .cons a (ih b)
theorem Rows.drop {K : PySem.W.Frag} {H : Hp} (n : Nat) : ∀ {ts : List Addr} {rs : List Row}, Rows K H ts rs → Rows K H (ts.drop n) (rs.drop n) := by
  induction n with
  | zero => intro ts rs h; exact h
  | succ n ih =>
    intro ts rs h
    cases h with
    | nil => exact .nil
    | cons a b => exact ih b
theorem Rows.dp {K : PySem.W.Frag} {H : Hp} : ∀ {ts : List Addr} {rs : List Row}, Rows K H ts rs → DpAll K H (ts.map V.ref) (rs.map fun r => PyData.tuple (rowD r))
  | _, _, .nil => .nil
  | _, _, .cons a b => .cons (row_dp a) (Rows.dp b)
end Sk


namespace Sk
open PySem PySem.Spec PyProof.Rows L2
abbrev sInitP : Stmt := inClass (top 2) 0
abbrev sInitD : Stmt := inClass (top 3) 0
abbrev sIsVal : Stmt := top 10
abbrev sIsDeed : Stmt := top 11
abbrev sChkV : Stmt := top 12
abbrev sFirst : Stmt := top 13
abbrev sDo : Stmt := top 14
abbrev sSerial : Stmt := top 15
/-- the errors' classes: PileError at B, BadPile at CP, BadDeed at CD -/
structure TxErr (K : PySem.W.Frag) (mg : Str → Option Value) (B CP CD fP fD : Addr) (mc : Value) : Prop where
  gB : mg "PileError" = some (.ref B)
  base : BaseI K B mc
  gP : mg "BadPile" = some (.ref CP)
  oP : OexC K CP
  iP : PySem.W.findIn K (.ref CP) "__init__" = some (some (.ref fP))
  tP : PySem.W.typeIn K (.ref fP) = some (.type "function")
  nP : PySem.W.findIn K (.ref CP) "at" = some none
  gD : mg "BadDeed" = some (.ref CD)
  oD : OexC K CD
  iD : PySem.W.findIn K (.ref CD) "__init__" = some (some (.ref fD))
  tD : PySem.W.typeIn K (.ref fD) = some (.type "function")
  nH : PySem.W.findIn K (.ref CD) "hand" = some none
  nN : PySem.W.findIn K (.ref CD) "number" = some none
/-- a new error with one field .. -/
def spInit1 (K : PySem.W.Frag) (C : Addr) (f : Str) : Sp := fun vs H Q _ => ∃ (a : Addr) (n : Int), vs = [.ref a, .int n] ∧ n.natAbs.log2 < 1920 ∧ H a = some (exo a C none) ∧
  ∀ dx, H dx = none → dx ≠ a → Q .non (upd (upd H dx (exd dx [(f, .int n)])) a (exo a C (some dx)))
/-- .. with two -/
def spInit2 (K : PySem.W.Frag) (C : Addr) (f g : Str) : Sp := fun vs H Q _ => ∃ (a : Addr) (n m : Int), vs = [.ref a, .int n, .int m] ∧ n.natAbs.log2 < 1920 ∧ m.natAbs.log2 < 1920 ∧ H a = some (exo a C none) ∧
  ∀ dx, H dx = none → dx ≠ a → Q .non (upd (upd (upd H dx (exd dx [(f, .int n)])) a (exo a C (some dx))) dx (exd dx [(g, .int m), (f, .int n)]))
theorem txt_fit {x : Str} {i : Int} (h : i.natAbs.log2 < 1920) (hx : x.length ≤ 10000) : (x ++ (Str.ofString (toString i))).length ≤ 20000 := by
  rw [PySem.Str.length_append]
  have := PyProof.Rows.int_text_len_1921 h
  omega
theorem line_of {n : Nat} (h : n ≤ 20000) : n ≤ sizeLine := by
  rw [sizeLine_eq]
  omega
section
variable {P : Program} {w : World} {K : PySem.W.Frag} {mg : Str → Option Value} {base : Heap} {f : Addr} {fd : FuncData} {B CP CD fP fD : Addr} {mc : Value}
theorem scInitP : FnScope ["self", "at"] ["self", "at"] (defScope sInitP) := ⟨rfl, rfl, rfl, by decide +kernel, rfl, by decide +kernel, by decide +kernel⟩
theorem scInitD : FnScope ["self", "hand", "number"] ["self", "hand", "number"] (defScope sInitD) := ⟨rfl, rfl, rfl, by decide +kernel, rfl, by decide +kernel, by decide +kernel⟩
theorem ok_initP (F : FnP K "__init__" "BadPile.__init__" sInitP f fd) (T : TxErr K mg B CP CD fP fD mc) : FnOk P w K mg base CX0 1 f fd ["self", "at"] (spInit1 K CP "at") := by
  refine fok F scInitP (fun vs H Q E h => ?_) (fun cdv A outer s H vs Q E hr h => ?_)
  · obtain ⟨a, n, rfl, _⟩ := h
    rfl
  · obtain ⟨a, n, rfl, hz, ha, k⟩ := h
    refine ⟨_, pss_cons (ps_expr (pe_ownInit (by rfl) T.gB T.base (pa_cons (pv 0) (pa_cons (pe_joined (.cons pe_str (.cons (pe_fmt (pv 1)) .nil))) pa_nil)))) (pss_one (ps_ost (pv 0) (pv 1))), ?_⟩
    refine ⟨_, rfl, _, rfl, ?l1, _, rfl, .inr ⟨n, rfl, hz, _, rfl, ?l2, a, CP, _, rfl, ?l3, T.oP, ha, _, rfl, _, rfl, a, CP, rfl, T.oP, T.nP, .inl ⟨ha, fun dx h1 h2 => k dx h1 h2⟩⟩⟩
    case l1 => exact line_of (by decide +kernel)
    case l2 => exact line_of (txt_fit hz (by decide +kernel))
    case l3 => show 1 ≤ 1000; decide
theorem ok_initD (F : FnP K "__init__" "BadDeed.__init__" sInitD f fd) (T : TxErr K mg B CP CD fP fD mc) : FnOk P w K mg base CX0 1 f fd ["self", "hand", "number"] (spInit2 K CD "hand" "number") := by
  refine fok F scInitD (fun vs H Q E h => ?_) (fun cdv A outer s H vs Q E hr h => ?_)
  · obtain ⟨a, n, m, rfl, _⟩ := h
    rfl
  · obtain ⟨a, n, m, rfl, hz, hz2, ha, k⟩ := h
    refine ⟨_, pss_cons (ps_expr (pe_ownInit (by rfl) T.gB T.base (pa_cons (pv 0) (pa_cons (pe_joined (.cons pe_str (.cons (pe_fmt (pv 1)) (.cons pe_str (.cons (pe_fmt (pv 2)) .nil))))) pa_nil)))) (pss_cons (ps_ost (pv 0) (pv 1)) (pss_one (ps_ost (pv 0) (pv 2)))), ?_⟩
    refine ⟨_, rfl, _, rfl, ?l1, _, rfl, .inr ⟨n, rfl, hz, _, rfl, ?l2, _, rfl, ?l3, _, rfl, .inr ⟨m, rfl, hz2, _, rfl, ?l4, a, CD, _, rfl, ?l5, T.oD, ha, _, rfl, _, rfl, a, CD, rfl, T.oD, T.nH, .inl ⟨ha, fun dx h1 h2 => ?_⟩⟩⟩⟩
    case l1 => exact line_of (by decide +kernel)
    case l2 => exact line_of (txt_fit hz (by decide +kernel))
    case l3 =>
      refine line_of ?_
      rw [PySem.Str.length_append]
      have := txt_fit (x := Str.empty ++ Str.ofString "no deed: hand ") hz (by decide +kernel)
      have e1 : (Str.ofString ", deed ").length = 7 := by decide +kernel
      have e2 : (Str.empty ++ Str.ofString "no deed: hand ").length = 14 := by decide +kernel
      rw [PySem.Str.length_append] at this ⊢
      have := PyProof.Rows.int_text_len_1921 hz
      omega
    case l4 =>
      refine line_of ?_
      rw [PySem.Str.length_append, PySem.Str.length_append, PySem.Str.length_append]
      have e1 : (Str.ofString ", deed ").length = 7 := by decide +kernel
      have e2 : (Str.empty ++ Str.ofString "no deed: hand ").length = 14 := by decide +kernel
      have := PyProof.Rows.int_text_len_1921 hz
      have := PyProof.Rows.int_text_len_1921 hz2
      omega
    case l5 => show 1 ≤ 1000; decide
    refine ⟨_, rfl, _, rfl, a, CD, rfl, T.oD, T.nN, .inr ⟨dx, _, upd_same, (by rw [upd_ne h2, upd_same]), (by show 1 ≤ 900; decide), k dx h1 h2⟩⟩
/-! ### values and deeds -/
def spIsVal : Sp := fun vs H Q _ => ∃ n : Int, vs = [.int n] ∧ Q (.bl (valB n)) H
theorem scIsVal : FnScope ["number"] ["number"] (defScope sIsVal) := ⟨rfl, rfl, rfl, by decide +kernel, rfl, by decide +kernel, by decide +kernel⟩
theorem ok_isVal (F : FnP K "is_value" "is_value" sIsVal f fd) (mH : ∃ t, mg "HIGHEST_VALUE" = some (.int 99 t)) : FnOk P w K mg base CX0 1 f fd ["number"] spIsVal := by
  obtain ⟨t, mH⟩ := mH
  refine fok F scIsVal (fun vs H Q E h => ?_) (fun cdv A outer s H vs Q E hr h => ?_)
  · obtain ⟨n, rfl, _⟩ := h
    rfl
  · obtain ⟨n, rfl, k⟩ := h
    refine ⟨_, pss_one (ps_ret (pe_chain op_le op_le pe_int (pv 0) (pe_glob (v := .int 99) rfl mH ⟨_, rfl⟩))), ?_⟩
    refine ⟨_, rfl, _, _, rfl, rfl, _, rfl, ?_⟩
    refine ite2 (fun h1 => ⟨_, _, rfl, rfl, ?_⟩) (fun h1 => ?_)
    · have e : valB n = decide (n ≤ 99) := by unfold valB; rw [h1, Bool.true_and]
      rw [e] at k
      exact k
    · have e : valB n = false := by unfold valB; rw [Bool.eq_false_iff.mpr h1, Bool.false_and]
      rw [e] at k
      exact k
def spIsDeed (K : PySem.W.Frag) : Sp := fun vs H Q _ => ∃ (t : Addr) (r : Row), vs = [.ref t] ∧ SqT K H t (rowV r) ∧ Lay r ∧ Q (.bl (okRow r)) H
theorem scIsDeed : FnScope ["deed"] ["deed"] (defScope sIsDeed) := ⟨rfl, rfl, rfl, by decide +kernel, rfl, by decide +kernel, by decide +kernel⟩
/-- POP stands at p -/
structure TxPop (K : PySem.W.Frag) (mg : Str → Option Value) (p : Addr) : Prop where
  g : mg "POP" = some (.ref p)
  at_ : ∀ H, SqT K H p [.str sPop]
theorem pop_lay : SeqAt.shaped (.tuple [.str sPop]) = true := by decide +kernel
theorem ok_isDeed {fV pop : Addr} {fdV : FuncData} (F : FnP K "is_deed" "is_deed" sIsDeed f fd) (FV : FnP K "is_value" "is_value" sIsVal fV fdV) (gV : mg "is_value" = some (.ref fV)) (mH : ∃ t, mg "HIGHEST_VALUE" = some (.int 99 t)) (TP : TxPop K mg pop) (mL : mg "len" = none) :
    FnOk P w K mg base CX0 2 f fd ["deed"] (spIsDeed K) := by
  have G : FnOk P w K mg base CX0 1 fV fdV ["number"] spIsVal := ok_isVal FV mH
  have b : Binds K fdV ["number"] [] := FV.bindsN fun _ _ _ _ _ _ us hl => match us, hl with | [_], _ => rfl
  refine fok F scIsDeed (fun vs H Q E h => ?_) (fun cdv A outer s H vs Q E hr h => ?_)
  · obtain ⟨t, r, rfl, _⟩ := h
    rfl
  · obtain ⟨t, r, rfl, hS, hL, k⟩ := h
    refine ⟨_, pss_cons (ps_if (pt_cmpR (op_eqD hr.units) (pv 0) (pe_glob (v := .ref pop) rfl TP.g rfl) (nomark _)) (pss_one (ps_ret pe_bl)) pss_nil)
      (pss_one (ps_ret (pe_and (pe_cmpR op_eq (pe_callB call_len_seq (by rfl) mL PySem.boot_len (pa_cons (pv 0) pa_nil)) pe_int (nomark _))
        (pe_and (pe_cmpR op_eq (pe_ix ix_tup (pv 0) pe_int (fun _ _ => rfl)) pe_str (nomark _)) (pe_one (pe_call G hr rfl gV FV.kp b .nil pass0 (pa_cons (pe_ix ix_tup (pv 0) pe_int (fun _ _ => rfl)) pa_nil))))))), ?_⟩
    refine ⟨_, rfl, _, _, row_dp hS, .tup (TP.at_ _) (.cons (.str _) .nil), hL, pop_lay, _, rfl, ?_⟩
    rw [eqv_pop]
    refine ite2 (fun hp => ?_) (fun hp => ?_)
    · rw [isPop_ok hp] at k
      exact k
    · refine ⟨_, rfl, t, _, rfl, .inr hS, rfl, _, rfl, ?_⟩
      cases r with
      | none =>
        exact iteF k
      | some q =>
        obtain ⟨z, is⟩ := q
        cases is with
        | nil =>
          have e : okRow (some (z, [])) = false := by
            have : ¬ z = sPop := fun q => hp (by rw [q]; simp [isPop])
            simp [okRow, this]
          rw [e] at k
          exact iteF k
        | cons v l =>
          cases l with
          | nil =>
            refine iteT ⟨_, rfl, _, _, _, _, rfl, rfl, hS, rfl, rfl, _, rfl, ?_⟩
            refine ite2 (fun hz => ?_) (fun hz => ?_)
            · have ez : z = sPush := by simpa using of_decide_eq_true hz
              refine ⟨_, rfl, _, _, _, _, rfl, rfl, hS, rfl, v, rfl, ?_⟩
              have e : okRow (some (z, [v])) = valB v := by simp [okRow, ez]
              rw [e] at k
              exact k
            · have nz : ¬ z = sPush := fun q => hz (by rw [q]; exact decide_eq_true rfl)
              have e : okRow (some (z, [v])) = false := by simp [okRow, nz]
              rw [e] at k
              exact k
          | cons u l =>
            have hn : ¬ ((V.int (((rowV (some (z, v :: u :: l))).length : Nat) : Int)) = V.int 2) := by
              intro q
              have q2 := V.int.inj q
              simp [rowV] at q2
              omega
            show (if decide (V.int (((rowV (some (z, v :: u :: l))).length : Nat) : Int) = V.int 2) = true then _ else _)
            rw [decide_eq_false hn]
            exact iteF k
end
end Sk


namespace Sk
open PySem PySem.Spec PyProof.Rows L2
/-- what is wanted of an error of the class at C with the fields fs, raised over H -/
def Wants (E : XK) (H : Hp) (C : Addr) (fs : List (Str × V)) : Prop := ∀ (d : Addr) (H' : Hp), Same H H' → H' d = some (.xd fs) → E (.ref C) (some d) H'
section
variable {K : PySem.W.Frag} {C : Addr} {f g : Str}
theorem same_exc {H1 H2 : Hp} {a d : Addr} {u : HO} (na : H1 a = none) (nd : H1 d = none) (k : ∀ b o, b ≠ a → b ≠ d → H1 b = some o → H2 b = some o) : Same H1 (upd (del H2 a) d u) := fun b o e => by
  rw [upd_ne (ne_of_none e nd), del_ne (ne_of_none e na)]
  exact k b o (ne_of_none e na) (ne_of_none e nd) e
theorem raise1 {H1 : Hp} {E : XK} {n : Int} (hz : n.natAbs.log2 < 1920) (k : Wants E H1 C [(f, .int n)]) : ([V.int n] : List V).length ≤ 1000 ∧ ∀ a, H1 a = none → spInit1 K C f (.ref a :: ([V.int n] ++ [])) (upd H1 a (exo a C none))
    (fun v H2 => v = .non ∧ ∃ (d : Addr) (fs : List (Str × V)), H2 a = some (exo a C (some d)) ∧ H2 d = some (exd d fs) ∧ H1 d = none ∧ E (.ref C) (some d) (upd (del H2 a) d (.xd fs))) E0 := by
  refine ⟨by show 1 ≤ 1000; decide, fun a na => ⟨a, n, rfl, hz, upd_same, fun dx h1 h2 => ⟨rfl, dx, _, upd_same, (by rw [upd_ne h2, upd_same]), ?_, ?_⟩⟩⟩
  · rw [upd_ne h2] at h1
    exact h1
  · have nd : H1 dx = none := by
      rw [upd_ne h2] at h1
      exact h1
    exact k dx _ (same_exc na nd fun b o q1 q2 e => by rw [upd_ne q1, upd_ne q2, upd_ne q1]; exact e) upd_same
theorem raise2 {H1 : Hp} {E : XK} {n m : Int} (hz : n.natAbs.log2 < 1920) (hz2 : m.natAbs.log2 < 1920) (k : Wants E H1 C [(g, .int m), (f, .int n)]) : ([V.int n, V.int m] : List V).length ≤ 1000 ∧ ∀ a, H1 a = none → spInit2 K C f g (.ref a :: ([V.int n, V.int m] ++ [])) (upd H1 a (exo a C none))
    (fun v H2 => v = .non ∧ ∃ (d : Addr) (fs : List (Str × V)), H2 a = some (exo a C (some d)) ∧ H2 d = some (exd d fs) ∧ H1 d = none ∧ E (.ref C) (some d) (upd (del H2 a) d (.xd fs))) E0 := by
  refine ⟨by show 2 ≤ 1000; decide, fun a na => ⟨a, n, m, rfl, hz, hz2, upd_same, fun dx h1 h2 => ⟨rfl, dx, _, (by rw [upd_ne (Ne.symm h2), upd_same]), upd_same, ?_, ?_⟩⟩⟩
  · rw [upd_ne h2] at h1
    exact h1
  · have nd : H1 dx = none := by
      rw [upd_ne h2] at h1
      exact h1
    exact k dx _ (same_exc na nd fun b o q1 q2 e => by rw [upd_ne q2, upd_ne q1, upd_ne q2, upd_ne q1]; exact e) upd_same
end
section
variable {P : Program} {w : World} {K : PySem.W.Frag} {mg : Str → Option Value} {base : Heap} {f : Addr} {fd : FuncData}
/-- a def that may let an own error out -/
theorem fokN {x q : Str} {st : Stmt} {N ps : List Str} {k : Nat} {sp : Sp} (F : FnP K x q st f fd) (S : FnScope N ps (defScope st)) (len : ∀ vs H Q E, sp vs H Q E → vs.length = ps.length)
    (body : ∀ (cdv : Value) (A : Around) (outer : List Env) (s : Shared) (H : Hp) (vs : List V) (Q : VK) (E : XK), Room k (A.deeper (envOfC q (defScope st) s.heap.objs.size f cdv)) → sp vs H Q E →
      ∃ t, PSs (cxOf (L2N.CX P w) P w K mg base N q (defScope st) f cdv A outer s H E) (defBody st) t ∧ t { nx := fun _ H' => Q .non H', rt := Q } (start N vs) H) : FnOk P w K mg base (L2N.CX P w) (k + 1) f fd ps sp :=
  F.ok S len body
theorem small_log {n : Int} (h : n.natAbs < 2 ^ 64) : n.natAbs.log2 < 1920 := by
  by_cases z : n.natAbs = 0
  · rw [z]; decide
  · have := (Nat.log2_lt z).mpr h
    omega
def spChkV (K : PySem.W.Frag) (CP : Addr) : Sp := fun vs H Q E => ∃ (a : Addr) (ns : List Int), vs = [.ref a] ∧ SqL K H a (ns.map V.int) ∧ ns.length ≤ 1000 ∧ (6 < ns.length → Wants E H CP [("at", .int 6)]) ∧
  (ns.length ≤ 6 → ∀ i : Nat, firstNot valB ns = some i → Wants E H CP [("at", .int (i : Int))]) ∧ (ns.length ≤ 6 → firstNot valB ns = none → ∀ H', Same H H' → Q .non H')
theorem scChkV : FnScope ["values", "at", "value"] ["values"] (defScope sChkV) := ⟨rfl, rfl, rfl, by decide +kernel, rfl, by decide +kernel, by decide +kernel⟩
theorem ok_chkV {fV fP B CP CD fD : Addr} {mc : Value} {fdV fdP : FuncData} (F : FnP K "check_values" "check_values" sChkV f fd) (FV : FnP K "is_value" "is_value" sIsVal fV fdV) (gV : mg "is_value" = some (.ref fV)) (mH : ∃ t, mg "HIGHEST_VALUE" = some (.int 99 t))
    (mM : ∃ t, mg "MOST_VALUES" = some (.int 6 t)) (T : TxErr K mg B CP CD fP fD mc) (FP : FnP K "__init__" "BadPile.__init__" sInitP fP fdP) (mL : mg "len" = none) (mE : mg "enumerate" = none) : FnOk P w K mg base (L2N.CX P w) 3 f fd ["values"] (spChkV K CP) := by
  have G : FnOk P w K mg base CX0 1 fV fdV ["number"] spIsVal := ok_isVal FV mH
  have b : Binds K fdV ["number"] [] := FV.bindsN fun _ _ _ _ _ _ us hl => match us, hl with | [_], _ => rfl
  have GP : FnOk P w K mg base CX0 1 fP fdP ["self", "at"] (spInit1 K CP "at") := ok_initP FP T
  have bP : Binds K fdP ["self", "at"] [] := FP.bindsN fun _ _ _ _ _ _ us hl => match us, hl with | [_, _], _ => rfl
  obtain ⟨tM, mM⟩ := mM
  refine fokN F scChkV (fun vs H Q E h => ?_) (fun cdv A outer s H vs Q E hr h => ?_)
  · obtain ⟨a, ns, rfl, _⟩ := h
    rfl
  · obtain ⟨a, ns, rfl, hS, hz, k1, k2, k3⟩ := h
    refine ⟨_, pss_cons (ps_if (pt_cmpR op_gt (pe_callB call_len_seq (by rfl) mL PySem.boot_len (pa_cons (pv 0) pa_nil)) (pe_glob (v := .int 6) rfl mM ⟨_, rfl⟩) (nomark _))
        (pss_one (L2N.ps_raise rfl (L2N.takes_of rfl rfl rfl rfl) (pmkN T.oP T.iP T.tP GP hr bP pass0 (by rfl) T.gP (pa_cons (pe_glob (v := .int 6) rfl mM ⟨_, rfl⟩) pa_nil)))) pss_nil)
      (pss_one (ps_for (passes_of rfl) rfl (pi_enum (by rfl) mE (pa_cons (pv 0) pa_nil)) (pg_tup (by rfl) (pgs_cons (pg_name (i := 1) scChkV.nd rfl (.inl rfl)) (pgs_cons (pg_name (i := 2) scChkV.nd rfl (.inl rfl)) pgs_nil)))
        (pss_one (ps_if (pt_not (pt_val (pe_call G (hr.mono (by decide)) rfl gV FV.kp b .nil pass0 (pa_cons (pv 2) pa_nil))))
          (pss_one (L2N.ps_raise rfl (L2N.takes_of rfl rfl rfl rfl) (pmkN T.oP T.iP T.tP GP hr bP pass0 (by rfl) T.gP (pa_cons (pv 1) pa_nil)))) pss_nil)))), ?_⟩
    refine ⟨_, rfl, a, _, rfl, .inl hS, _, _, rfl, rfl, _, rfl, ?_⟩
    refine ite2 (fun hl => ?_) (fun hl => ?_)
    · have h6 : 6 < ns.length := by
        have := of_decide_eq_true hl
        rw [List.length_map] at this
        omega
      exact raise1 (small_log (by decide)) (k1 h6)
    · have h6 : ns.length ≤ 6 := by
        have q : ¬ (6 < (((ns.map V.int).length : Nat) : Int)) := fun z => hl (decide_eq_true z)
        rw [List.length_map] at q
        omega
      refine ⟨_, rfl, a, _, rfl, hS, for_it walk_enum (fun i σ H' => Same H H' ∧ (∃ u v : Option V, σ = [some (.ref a), u, v]) ∧ ∀ j, j < i → ∀ y, ns[j]? = some y → valB y = true) ⟨.refl H, ⟨none, none, rfl⟩, fun j hj => absurd hj (Nat.not_lt_zero _)⟩ (fun i σ H' _ z => z.1.seq hS) ?_ ?_⟩
      · rintro i x σ H1 H2 hi ⟨s1, ⟨u, v, rfl⟩, before⟩ ⟨t, x1, x2, rfl, nt, rfl, e1, e2⟩
        have e1' : V.int (i : Nat) = x1 := Option.some.inj e1
        subst e1'
        rw [List.length_map] at hi
        have e3 : x2 = V.int ns[i] := by
          have e4 : (ns.map V.int)[i]? = some x2 := e2
          rw [List.getElem?_map, List.getElem?_eq_getElem hi] at e4
          exact (Option.some.inj e4).symm
        subst e3
        have s2 : Same H (upd H1 t (.tup [.int (i : Nat), .int ns[i]])) := s1.trans (same_upd nt)
        refine ⟨t, _, rfl, SqT.of upd_same, rfl, _, _, rfl, _, _, rfl, rfl, _, rfl, _, rfl, _, rfl, ?_⟩
        refine ite2 (fun hb => ?_) (fun hb => ?_)
        · have hv : valB ns[i] = false := by simpa using hb
          refine ⟨_, rfl, raise1 (small_log (by omega)) fun d H' s3 e => k2 h6 i (firstNot_of (List.getElem?_eq_getElem hi) hv before) d H' (s2.trans s3) e⟩
        · have hv : valB ns[i] = true := by simpa using hb
          refine ⟨s2, ⟨_, _, rfl⟩, fun j hj y hy => ?_⟩
          by_cases hji : j = i
          · subst hji
            rw [List.getElem?_eq_getElem hi] at hy
            rw [← Option.some.inj hy]
            exact hv
          · exact before j (by omega) y hy
      · rintro σ H1 ⟨s1, ⟨u, v, rfl⟩, before⟩
        refine k3 h6 (firstNot_all fun x hx => ?_) H1 s1
        obtain ⟨j, hj, e⟩ := List.mem_iff_getElem.mp hx
        exact before j (by rw [List.length_map]; exact hj) x (by rw [List.getElem?_eq_getElem hj, e])
end
end Sk


namespace Sk
open PySem PySem.Spec PyProof.Rows L2
def numV : Option Nat → V
  | none => .non
  | some i => .int (i : Int)
def spFirst (K : PySem.W.Frag) : Sp := fun vs H Q _ => ∃ (a : Addr) (ts : List Addr) (rs : List Row), vs = [.ref a] ∧ SqL K H a (ts.map V.ref) ∧ Rows K H ts rs ∧ (∀ r ∈ rs, Lay r) ∧ ∀ H', Same H H' → Q (numV (firstNot okRow rs)) H'
def spDo (K : PySem.W.Frag) : Sp := fun vs H Q _ => ∃ (p t : Addr) (pile : List Int) (d : Deed), vs = [.ref p, .ref t] ∧ H p = some (.lst (pile.map V.int)) ∧ SqT K H t (rowV d.row) ∧ pile.length ≤ 10000 ∧
  ∀ H', But p H H' → H' p = some (.lst ((act pile d).2.map V.int)) → Q (act pile d).1 H'
/-- what serial promises -/
def spSerial (K : PySem.W.Frag) (CP CD : Addr) : Sp := fun vs H Q E => ∃ (a b : Addr) (ns : List Int) (ts : List Addr) (rs : List Row), vs = [.ref a, .ref b] ∧ SqL K H a (ns.map V.int) ∧ ns.length ≤ 1000 ∧ SqL K H b (ts.map V.ref) ∧ Rows K H ts rs ∧ ts.length ≤ 1000 ∧ (∀ r ∈ rs, Lay r) ∧
  (6 < ns.length → Wants E H CP [("at", .int 6)]) ∧ (ns.length ≤ 6 → ∀ i : Nat, firstNot valB ns = some i → Wants E H CP [("at", .int (i : Int))]) ∧
  (ns.length ≤ 6 → firstNot valB ns = none → ∀ i : Nat, firstNot okRow rs = some i → Wants E H CD [("number", .int (i : Int)), ("hand", .int 0)]) ∧
  (ns.length ≤ 6 → firstNot valB ns = none → ∀ ds : List Deed, rs = ds.map Deed.row → (∀ d ∈ ds, d.fit) → ∀ (t A B : Addr) (H' : Hp), Same H H' → H A = none → H B = none → A ≠ B → H' t = some (.tup [.ref A, .ref B]) → H' A = some (.lst (acts ns ds).1) →
    H' B = some (.lst ((acts ns ds).2.map V.int)) → Q (.ref t) H')
theorem deeds_of : ∀ {rs : List Row}, (∀ r ∈ rs, okRow r = true) → ∃ ds : List Deed, rs = ds.map Deed.row ∧ ∀ d ∈ ds, d.fit
  | [], _ => ⟨[], rfl, fun d h => by cases h⟩
  | r :: rs, h => by
    obtain ⟨d, e, f⟩ := ok_deed (h r List.mem_cons_self)
    obtain ⟨ds, e2, f2⟩ := deeds_of fun x hx => h x (List.mem_cons_of_mem _ hx)
    refine ⟨d :: ds, by rw [e, e2]; rfl, fun x hx => ?_⟩
    rcases List.mem_cons.mp hx with q | q
    · rw [q]; exact f
    · exact f2 x q
section
variable {P : Program} {w : World} {K : PySem.W.Frag} {mg : Str → Option Value} {base : Heap} {f : Addr} {fd : FuncData}
theorem scFirst : FnScope ["deeds", "number", "deed"] ["deeds"] (defScope sFirst) := ⟨rfl, rfl, rfl, by decide +kernel, rfl, by decide +kernel, by decide +kernel⟩
theorem ok_first {fI fV pop : Addr} {fdI fdV : FuncData} (F : FnP K "first_bad_deed" "first_bad_deed" sFirst f fd) (FI : FnP K "is_deed" "is_deed" sIsDeed fI fdI) (gI : mg "is_deed" = some (.ref fI)) (FV : FnP K "is_value" "is_value" sIsVal fV fdV) (gV : mg "is_value" = some (.ref fV))
    (mH : ∃ t, mg "HIGHEST_VALUE" = some (.int 99 t)) (TP : TxPop K mg pop) (mL : mg "len" = none) (mE : mg "enumerate" = none) : FnOk P w K mg base CX0 3 f fd ["deeds"] (spFirst K) := by
  have G : FnOk P w K mg base CX0 2 fI fdI ["deed"] (spIsDeed K) := ok_isDeed FI FV gV mH TP mL
  have b : Binds K fdI ["deed"] [] := FI.bindsN fun _ _ _ _ _ _ us hl => match us, hl with | [_], _ => rfl
  refine fok F scFirst (fun vs H Q E h => ?_) (fun cdv A outer s H vs Q E hr h => ?_)
  · obtain ⟨a, ts, rs, rfl, _⟩ := h
    rfl
  · obtain ⟨a, ts, rs, rfl, hS, hR, hL, k⟩ := h
    refine ⟨_, pss_cons (ps_for PassesOwn.never rfl (pi_enum (by rfl) mE (pa_cons (pv 0) pa_nil)) (pg_tup (by rfl) (pgs_cons (pg_name (i := 1) scFirst.nd rfl (.inl rfl)) (pgs_cons (pg_name (i := 2) scFirst.nd rfl (.inl rfl)) pgs_nil)))
        (pss_one (ps_if (pt_not (pt_val (pe_call G hr rfl gI FI.kp b .nil pass0 (pa_cons (pv 2) pa_nil)))) (pss_one (ps_ret (pv 1))) pss_nil)))
      (pss_one (ps_ret pe_non)), ?_⟩
    have hlen := Rows.len hR
    refine ⟨_, rfl, a, _, rfl, hS, for_it walk_enum (fun i σ H' => Same H H' ∧ (∃ u v : Option V, σ = [some (.ref a), u, v]) ∧ ∀ j, j < i → ∀ y, rs[j]? = some y → okRow y = true) ⟨.refl H, ⟨none, none, rfl⟩, fun j hj => absurd hj (Nat.not_lt_zero _)⟩ (fun i σ H' _ z => z.1.seq hS) ?_ ?_⟩
    · rintro i x σ H1 H2 hi ⟨s1, ⟨u, v, rfl⟩, before⟩ ⟨t, x1, x2, rfl, nt, rfl, e1, e2⟩
      have e1' : V.int (i : Nat) = x1 := Option.some.inj e1
      subst e1'
      rw [List.length_map] at hi
      have e3 : x2 = V.ref ts[i] := by
        have e4 : (ts.map V.ref)[i]? = some x2 := e2
        rw [List.getElem?_map, List.getElem?_eq_getElem hi] at e4
        exact (Option.some.inj e4).symm
      subst e3
      have s2 : Same H (upd H1 t (.tup [.int (i : Nat), .ref ts[i]])) := s1.trans (same_upd nt)
      obtain ⟨r, er, hr0⟩ := hR.at_ (List.getElem?_eq_getElem hi)
      refine ⟨t, _, rfl, SqT.of upd_same, rfl, _, _, rfl, _, _, rfl, rfl, _, rfl, _, r, rfl, same_tup s2 hr0, hL _ (List.mem_of_getElem? er), _, rfl, ?_⟩
      refine ite2 (fun hb => ?_) (fun hb => ?_)
      · have hv : okRow r = false := by simpa using hb
        have e : firstNot okRow rs = some i := firstNot_of er hv before
        rw [e] at k
        exact ⟨_, rfl, k _ s2⟩
      · have hv : okRow r = true := by simpa using hb
        refine ⟨s2, ⟨_, _, rfl⟩, fun j hj y hy => ?_⟩
        by_cases hji : j = i
        · subst hji
          rw [er] at hy
          rw [← Option.some.inj hy]
          exact hv
        · exact before j (by omega) y hy
    · rintro σ H1 ⟨s1, ⟨u, v, rfl⟩, before⟩
      have e : firstNot okRow rs = none := firstNot_all fun x hx => by
        obtain ⟨j, hj, e⟩ := List.mem_iff_getElem.mp hx
        exact before j (by rw [List.length_map, hlen]; exact hj) x (by rw [List.getElem?_eq_getElem hj, e])
      rw [e] at k
      exact k H1 s1
theorem scDo : FnScope ["pile", "deed"] ["pile", "deed"] (defScope sDo) := ⟨rfl, rfl, rfl, by decide +kernel, rfl, by decide +kernel, by decide +kernel⟩
theorem ok_do {pop : Addr} (F : FnP K "do_deed" "do_deed" sDo f fd) (TP : TxPop K mg pop) (mL : mg "len" = none) : FnOk P w K mg base CX0 1 f fd ["pile", "deed"] (spDo K) := by
  refine fok F scDo (fun vs H Q E h => ?_) (fun cdv A outer s H vs Q E hr h => ?_)
  · obtain ⟨p, t, pile, d, rfl, _⟩ := h
    rfl
  · obtain ⟨p, t, pile, d, rfl, hp, ht, hz, k⟩ := h
    refine ⟨_, pss_cons (ps_if (pt_cmpR (op_neD hr.units) (pv 1) (pe_glob (v := .ref pop) rfl TP.g rfl) (nomark _))
        (pss_cons (ps_expr (pe_bm PySem.F.plainAttrs_list PySem.F.slot_list_append PySem.F.type_list_append mt_append (pv 0) (pa_cons (pe_ix ix_tup (pv 1) pe_int (fun _ _ => rfl)) pa_nil))) (pss_one (ps_ret pe_str))) pss_nil)
      (pss_cons (ps_if (pt_cmpR op_eq (pe_callB call_len_seq (by rfl) mL PySem.boot_len (pa_cons (pv 0) pa_nil)) pe_int (nomark _)) (pss_one (ps_ret pe_non)) pss_nil)
      (pss_one (ps_ret (pe_bm0 PySem.F.plainAttrs_list PySem.F.slot_list_pop PySem.F.type_list_pop mt_pop (pv 0))))), ?_⟩
    refine ⟨_, rfl, _, _, row_dp ht, .tup (TP.at_ _) (.cons (.str _) .nil), deed_lay d, pop_lay, _, rfl, ?_⟩
    rw [eqv_pop]
    cases d with
    | push v =>
      have e : isPop (Deed.row (.push v)) = false := rfl
      rw [e]
      refine iteT ⟨_, rfl, .inl ⟨rfl, _, SqL.of hp⟩, _, rfl, _, _, _, _, rfl, rfl, ht, rfl, p, _, _, rfl, rfl, hp, ?_, ?_⟩
      · rw [List.length_map, sizeLine_eq]
        omega
      · refine k _ .upd ?_
        rw [upd_same]
        simp [act]
    | pop =>
      have e : isPop (Deed.row .pop) = true := by simp [isPop, Deed.row]
      rw [e]
      refine iteF ⟨_, rfl, p, _, rfl, .inl (SqL.of hp), rfl, _, rfl, ?_⟩
      cases hg : pile.getLast? with
      | none =>
        have en : pile = [] := by simpa using hg
        subst en
        refine iteT ?_
        exact k _ .refl (by simpa [act] using hp)
      | some v =>
        have hne : pile ≠ [] := fun q => by rw [q] at hg; cases hg
        have hl : 0 < pile.length := List.length_pos_iff.mpr hne
        have nz : decide (V.int (((pile.map V.int).length : Nat) : Int) = V.int 0) = false := decide_eq_false fun q => by
          have q2 := V.int.inj q
          rw [List.length_map] at q2
          omega
        show (if decide (V.int (((pile.map V.int).length : Nat) : Int) = V.int 0) = true then _ else _)
        rw [nz]
        refine iteF ⟨_, rfl, .inl ⟨rfl, _, SqL.of hp⟩, p, _, V.int v, rfl, rfl, hp, ?_, ?_⟩
        · rw [List.getElem?_map, List.length_map, ← List.getLast?_eq_getElem?, hg]
          rfl
        · have ea : act pile .pop = (.int v, pile.dropLast) := by simp [act, hg]
          rw [ea] at k
          refine k _ .upd ?_
          rw [upd_same, ← List.map_dropLast]
theorem scSerial : FnScope ["values", "deeds", "bad", "pile", "answers", "deed"] ["values", "deeds"] (defScope sSerial) := ⟨rfl, rfl, rfl, by decide +kernel, rfl, by decide +kernel, by decide +kernel⟩
/-- what serial calls -/
structure TxSer (K : PySem.W.Frag) (mg : Str → Option Value) (fC fF fO : Addr) : Prop where
  gC : mg "check_values" = some (.ref fC)
  gF : mg "first_bad_deed" = some (.ref fF)
  gO : mg "do_deed" = some (.ref fO)
  list : mg "list" = none
theorem ok_serial {fC fF fO B CP CD fP fD : Addr} {mc : Value} {fdC fdF fdO fdD : FuncData} (F : FnP K "serial" "serial" sSerial f fd) (T : TxSer K mg fC fF fO) (FC : FnP K "check_values" "check_values" sChkV fC fdC) (GC : FnOk P w K mg base (L2N.CX P w) 3 fC fdC ["values"] (spChkV K CP))
    (FF : FnP K "first_bad_deed" "first_bad_deed" sFirst fF fdF) (GF : FnOk P w K mg base CX0 3 fF fdF ["deeds"] (spFirst K)) (FO : FnP K "do_deed" "do_deed" sDo fO fdO) (GO : FnOk P w K mg base CX0 1 fO fdO ["pile", "deed"] (spDo K))
    (TE : TxErr K mg B CP CD fP fD mc) (FD : FnP K "__init__" "BadDeed.__init__" sInitD fD fdD) : FnOk P w K mg base (L2N.CX P w) 4 f fd ["values", "deeds"] (spSerial K CP CD) := by
  have bC : Binds K fdC ["values"] [] := FC.bindsN fun _ _ _ _ _ _ us hl => match us, hl with | [_], _ => rfl
  have bF : Binds K fdF ["deeds"] [] := FF.bindsN fun _ _ _ _ _ _ us hl => match us, hl with | [_], _ => rfl
  have bO : Binds K fdO ["pile", "deed"] [] := FO.bindsN fun _ _ _ _ _ _ us hl => match us, hl with | [_, _], _ => rfl
  have GD : FnOk P w K mg base CX0 1 fD fdD ["self", "hand", "number"] (spInit2 K CD "hand" "number") := ok_initD FD TE
  have bD : Binds K fdD ["self", "hand", "number"] [] := FD.bindsN fun _ _ _ _ _ _ us hl => match us, hl with | [_, _, _], _ => rfl
  refine fokN F scSerial (fun vs H Q E h => ?_) (fun cdv A outer s H vs Q E hr h => ?_)
  · obtain ⟨a, b, ns, ts, rs, rfl, _⟩ := h
    rfl
  · obtain ⟨a, b, ns, ts, rs, rfl, hN, hNl, hD, hR, hDl, hL, k1, k2, k3, k4⟩ := h
    refine ⟨_, pss_cons (ps_expr (pe_callS GC hr rfl T.gC FC.kp bC (fun σ => L2N.passAt (L2N.takes_of (E := E) rfl rfl rfl rfl) σ) (pa_cons (pv 0) pa_nil)))
      (pss_cons (ps_set (i := 2) scSerial.nd rfl (.inl rfl) (pe_call GF hr rfl T.gF FF.kp bF .nil pass0 (pa_cons (pv 1) pa_nil)))
      (pss_cons (ps_if (pt_cmpR op_notN (pv 2) pe_non (nomark _)) (pss_one (L2N.ps_raise rfl (L2N.takes_of rfl rfl rfl rfl) (pmkN TE.oD TE.iD TE.tD GD (hr.mono (by decide)) bD pass0 (by rfl) TE.gD (pa_cons pe_int (pa_cons (pv 2) pa_nil))))) pss_nil)
      (pss_cons (ps_set (i := 3) scSerial.nd rfl (.inl rfl) (pe_callTy call_list_of (by rfl) T.list (by decide +kernel) (pa_cons (pv 0) pa_nil)))
      (pss_cons (ps_set (i := 4) scSerial.nd rfl (.inl rfl) (pe_lst pa_nil))
      (pss_cons (ps_for (passes_of rfl) rfl (pi_list (pv 1)) (pg_name (i := 5) scSerial.nd rfl (.inl rfl))
        (pss_one (ps_expr (pe_bm PySem.F.plainAttrs_list PySem.F.slot_list_append PySem.F.type_list_append mt_append (pv 4) (pa_cons (pe_call GO (hr.mono (by decide)) rfl T.gO FO.kp bO .nil pass0 (pa_cons (pv 3) (pa_cons (pv 5) pa_nil))) pa_nil)))))
      (pss_one (ps_ret (pe_tup (pa_cons (pv 4) (pa_cons (pv 3) pa_nil)))))))))), ?_⟩
    refine ⟨_, rfl, a, ns, rfl, hN, hNl, k1, k2, fun h6 hv H1 s1 => ?_⟩
    refine ⟨_, rfl, b, ts, rs, rfl, s1.seq hD, hR.mono fun t xs z => same_tup s1 z, hL, fun H2 s2 => ?_⟩
    have s12 := s1.trans s2
    refine ⟨_, rfl, rfl, _, rfl, ?_⟩
    cases eb : firstNot okRow rs with
    | some i =>
      refine iteT ⟨_, rfl, raise2 (small_log (by decide)) (small_log ?_) fun d H' s3 e => k3 h6 hv i eb d H' (s12.trans s3) e⟩
      have := (List.getElem?_eq_some_iff.mp (firstNot_some eb).1.choose_spec.1).1
      have := hR.len
      omega
    | none =>
      obtain ⟨ds, eds, fit⟩ := deeds_of (firstNot_none eb)
      subst eds
      refine iteF ⟨_, rfl, a, _, rfl, .inl (s12.seq hN), fun p np => ⟨Nat.zero_le _, fun A nA => ?_⟩⟩
      have pA : p ≠ A := fun q => by
        rw [q, upd_same] at nA
        cases nA
      have nA2 : H2 A = none := by
        rw [upd_ne (Ne.symm pA)] at nA
        exact nA
      have hp0 : H p = none := s12.free np
      have hA0 : H A = none := s12.free nA2
      have s0 : Same H (upd (upd H2 p (.lst (ns.map V.int))) A (.lst [])) := fun c o e => by
        rw [upd_ne (ne_of_none e hA0), upd_ne (ne_of_none e hp0)]
        exact s12 c o e
      refine ⟨_, rfl, b, rfl, ⟨_, s0.seq hD⟩, for_list (K := K) (a := b) (xs := ts.map V.ref) (fun i σ H' => Same H H' ∧ H' p = some (.lst ((acts ns (ds.take i)).2.map V.int)) ∧ H' A = some (.lst (acts ns (ds.take i)).1) ∧
          ∃ v : Option V, σ = [some (.ref a), some (.ref b), some .non, some (.ref p), some (.ref A), v])
        ⟨s0, by rw [upd_ne pA, upd_same]; simp [acts], by rw [upd_same]; simp [acts], none, rfl⟩ (fun i σ H' _ z => z.1.seq hD) ?_ ?_⟩
      · rintro i x σ H' hi ⟨s3, e1, e2, v, rfl⟩
        have hi2 : i < ts.length := by
          have := (List.getElem?_eq_some_iff.mp hi).1
          rw [List.length_map] at this
          exact this
        have ex : x = V.ref ts[i] := by
          rw [List.getElem?_map, List.getElem?_eq_getElem hi2] at hi
          exact (Option.some.inj hi).symm
        subst ex
        obtain ⟨r, er, ht⟩ := hR.at_ (List.getElem?_eq_getElem hi2)
        have hid : i < ds.length := by
          have := hR.len
          rw [List.length_map] at this
          omega
        have er2 : r = ds[i].row := by
          rw [List.getElem?_map, List.getElem?_eq_getElem hid] at er
          exact (Option.some.inj er).symm
        subst er2
        have step := acts_take (pile := ns) (List.getElem?_eq_getElem hid)
        have l2 := acts_len2 ns (ds.take i)
        have l1 := acts_len1 ns (ds.take i)
        have lt : (ds.take i).length ≤ 1000 := by rw [List.length_take]; omega
        refine ⟨_, rfl, .inl ⟨rfl, _, SqL.of e2⟩, _, rfl, _, rfl, p, ts[i], (acts ns (ds.take i)).2, ds[i], rfl, e1, same_tup s3 ht, by omega, fun H4 b4 e4 => ?_⟩
        have e2' : H4 A = some (.lst (acts ns (ds.take i)).1) := b4 A _ (Ne.symm pA) e2
        refine ⟨A, _, _, rfl, rfl, e2', ?_, ?_⟩
        · rw [l1, sizeLine_eq]
          omega
        · rw [step]
          refine ⟨fun c o e => ?_, ?_, ?_, _, rfl⟩
          · rw [upd_ne (ne_of_none e hA0)]
            exact b4 c o (ne_of_none e hp0) (s3 c o e)
          · rw [upd_ne pA]
            exact e4
          · rw [upd_same]
      · rintro σ H' ⟨s3, e1, e2, v, rfl⟩
        have full : ds.take (ts.map V.ref).length = ds := by
          have := hR.len
          rw [List.length_map] at this
          rw [List.length_map, this, List.take_length]
        rw [full] at e1 e2
        refine ⟨_, rfl, _, rfl, (by show 2 ≤ sizeLine; decide), fun t nt => ?_⟩
        have nAt : A ≠ t := ne_of_none e2 nt
        have nPt : p ≠ t := ne_of_none e1 nt
        exact k4 h6 hv ds rfl fit t A p _ (s3.trans (same_upd nt)) hA0 hp0 (Ne.symm pA) upd_same (by rw [upd_ne nAt]; exact e2) (by rw [upd_ne nPt]; exact e1)
end
end Sk


namespace Sk
open PySem PySem.Spec PyProof.Rows L2
abbrev sValues : Stmt := top 20
abbrev sDeed : Stmt := top 21
abbrev sLSer : Stmt := top 23
/-- values drawn -/
def spValues (K : PySem.W.Frag) : Sp := fun vs H Q _ => ∃ (p a : Addr) (ns : List Int) (m : Int), vs = [.ref p, .int m] ∧ Dice K H p a ns ∧ 0 ≤ m ∧ m ≤ 1000 ∧
  ∀ (D : Addr) (xs : List Int) (H' : Hp), Drew K p a ns H H' → H D = none → H' D = some (.lst (xs.map V.int)) → xs.length ≤ m → (∀ x ∈ xs, 0 ≤ x ∧ x < 100) → Q (.ref D) H'
def spDeed (K : PySem.W.Frag) : Sp := fun vs H Q _ => ∃ (p a : Addr) (ns : List Int), vs = [.ref p] ∧ Dice K H p a ns ∧
  ∀ (t : Addr) (d : Deed) (H' : Hp), Drew K p a ns H H' → H t = none → H' t = some (.tup (rowV d.row)) → d.fit → Q (.ref t) H'
section
variable {P : Program} {w : World} {K : PySem.W.Frag} {mg : Str → Option Value} {base : Heap} {f : Addr} {fd : FuncData}
theorem scValues : FnScope ["_law_d", "_law_most", "_law_k"] ["_law_d", "_law_most"] (defScope sValues) := ⟨rfl, rfl, rfl, by decide +kernel, rfl, by decide +kernel, by decide +kernel⟩
theorem ok_values {fN : Addr} {fdN : FuncData} (F : FnP K "_law_values" "_law_values" sValues f fd) (FN : FnP K "_law_next" "_law_next" sNext fN fdN) (gN : mg "_law_next" = some (.ref fN)) (mL : mg "len" = none) (mR : mg "range" = none) :
    FnOk P w K mg base CX0 2 f fd ["_law_d", "_law_most"] (spValues K) := by
  have G : FnOk P w K mg base CX0 1 fN fdN ["_law_dice_here", "_law_many"] (spNext K) := ok_next FN mL
  have b : Binds K fdN ["_law_dice_here", "_law_many"] [] := FN.bindsN fun _ _ _ _ _ _ us hl => match us, hl with | [_, _], _ => rfl
  refine fok F scValues (fun vs H Q E h => ?_) (fun cdv A outer s H vs Q E hr h => ?_)
  · obtain ⟨p, a, ns, m, rfl, _⟩ := h
    rfl
  · obtain ⟨p, a, ns, m, rfl, d, m0, m1, k⟩ := h
    refine ⟨_, pss_one (ps_ret (pe_lc (own := [("_law_k", 2)]) (g := gName 2) (tt := tYes) rfl scValues.nd
        (pi_range1 (by rfl) mR (pa_cons (pe_call G hr rfl gN FN.kp b .nil pass0 (pa_cons (pv 0) (pa_cons (pe_op op_add (pv 1) pe_int) pa_nil))) pa_nil))
        (blkOk_by (N := ["_law_d", "_law_most", "_law_k"]) (sc := defScope sValues) (by decide +kernel)) (fun _ _ _ _ _ => pg_name (i := 2) scValues.nd rfl (Or.inl rfl)) (fun _ _ _ _ _ => pts_nil)
        (fun _ _ _ _ _ => pe_call G hr rfl gN FN.kp b .nil pass0 (pa_cons (pv 0) (pa_cons pe_int pa_nil))))), ?_⟩
    refine ⟨_, rfl, _, rfl, _, _, rfl, rfl, p, a, ns, _, rfl, d, by omega, by omega, fun n H1 n0 n1 r1 => ⟨n, rfl, by omega, by omega, fun D nD => ?_⟩⟩
    have nD0 : H D = none := r1.free nD
    have neD : D ≠ p := r1.ne nD
    refine lc_range (lo := 0) (n := n.toNat) (fun i H' => Drew K p a ns H H' ∧ ∃ xs : List Int, H' D = some (.lst (xs.map V.int)) ∧ xs.length = i ∧ ∀ x ∈ xs, 0 ≤ x ∧ x < 100)
      ⟨r1.put d nD0 neD, [], upd_same, rfl, fun x h => by cases h⟩ (fun i H' hi ⟨r2, xs, e, l, q⟩ => ⟨rfl, tyes ⟨_, rfl, p, a, ns, 100, rfl, r2.d, by decide, by decide, fun x H2 x0 x1 r3 => ?_⟩⟩) (fun H' ⟨r2, xs, e, l, q⟩ => k D xs H' r2 nD0 e (by omega) q)
    have e2 : H2 D = some (.lst (xs.map V.int)) := r3.b D _ neD e
    refine ⟨_, e2, ?_, (r2.trans r3).put d nD0 neD, xs ++ [x], ?_, ?_, fun y hy => ?_⟩
    · rw [List.length_map, sizeLine_eq]
      omega
    · rw [upd_same]
      simp
    · simp [l]
    · rcases List.mem_append.mp hy with z | z
      · exact q y z
      · rw [List.mem_singleton.mp z]
        exact ⟨x0, x1⟩
theorem scDeed : FnScope ["_law_d"] ["_law_d"] (defScope sDeed) := ⟨rfl, rfl, rfl, by decide +kernel, rfl, by decide +kernel, by decide +kernel⟩
theorem ok_deed_ {fN : Addr} {fdN : FuncData} (F : FnP K "_law_deed" "_law_deed" sDeed f fd) (FN : FnP K "_law_next" "_law_next" sNext fN fdN) (gN : mg "_law_next" = some (.ref fN)) (mL : mg "len" = none) : FnOk P w K mg base CX0 2 f fd ["_law_d"] (spDeed K) := by
  have G : FnOk P w K mg base CX0 1 fN fdN ["_law_dice_here", "_law_many"] (spNext K) := ok_next FN mL
  have b : Binds K fdN ["_law_dice_here", "_law_many"] [] := FN.bindsN fun _ _ _ _ _ _ us hl => match us, hl with | [_, _], _ => rfl
  refine fok F scDeed (fun vs H Q E h => ?_) (fun cdv A outer s H vs Q E hr h => ?_)
  · obtain ⟨p, a, ns, rfl, _⟩ := h
    rfl
  · obtain ⟨p, a, ns, rfl, d, k⟩ := h
    refine ⟨_, pss_cons (ps_if (pt_cmpR op_eq (pe_call G hr rfl gN FN.kp b .nil pass0 (pa_cons (pv 0) (pa_cons pe_int pa_nil))) pe_int (nomark _))
        (pss_one (ps_ret (pe_tup (pa_cons pe_str (pa_cons (pe_call G hr rfl gN FN.kp b .nil pass0 (pa_cons (pv 0) (pa_cons pe_int pa_nil))) pa_nil))))) pss_nil)
      (pss_one (ps_ret (pe_tup (pa_cons pe_str pa_nil)))), ?_⟩
    refine ⟨_, rfl, p, a, ns, 3, rfl, d, by decide, by decide, fun n H1 n0 n1 r1 => ⟨rfl, _, rfl, ?_⟩⟩
    refine ite2 (fun _ => ?_) (fun _ => ?_)
    · refine ⟨_, rfl, p, a, ns, 100, rfl, r1.d, by decide, by decide, fun x H2 x0 x1 r2 => ⟨by show 2 ≤ sizeLine; decide, fun t nt => ?_⟩⟩
      exact k t (.push x) _ ((r1.trans r2).same (same_upd nt)) ((r1.trans r2).free nt) upd_same ⟨x0, x1⟩
    · exact ⟨by show 1 ≤ sizeLine; decide, fun t nt => k t .pop _ (r1.same (same_upd nt)) (r1.free nt) upd_same trivial⟩
/-! ### the law's own serial -/
def spLSer (K : PySem.W.Frag) : Sp := fun vs H Q _ => ∃ (a b : Addr) (ns : List Int) (ts : List Addr) (ds : List Deed), vs = [.ref a, .ref b] ∧ SqL K H a (ns.map V.int) ∧ ns.length ≤ 1000 ∧ SqL K H b (ts.map V.ref) ∧ Rows K H ts (ds.map Deed.row) ∧ ts.length ≤ 1000 ∧
  ∀ (t A B : Addr) (H' : Hp), Same H H' → H' t = some (.tup [.ref A, .ref B]) → H' A = some (.lst (acts ns ds).1) → H' B = some (.lst ((acts ns ds).2.map V.int)) → Q (.ref t) H'
theorem scLSer : FnScope ["_law_values_here", "_law_deeds", "_law_now", "_law_answers", "_law_deed_here"] ["_law_values_here", "_law_deeds"] (defScope sLSer) := ⟨rfl, rfl, rfl, by decide +kernel, rfl, by decide +kernel, by decide +kernel⟩
theorem sIx_neg1 (n : Nat) : HT.sIx n n (some (-1)) = n - 1 := by
  unfold HT.sIx
  simp
  omega
theorem cut_last (xs : List V) : cutV xs none (some (-1)) = xs.dropLast := by
  unfold cutV
  rw [HT.sIx_none, sIx_neg1, List.dropLast_eq_take]
  simp
end
end Sk
namespace Sk
open PySem PySem.Spec PyProof.Rows L2
theorem lay_ints : ∀ ns : List Int, PyData.canLayAll0 (ns.map PyData.int) = true ∧ PyData.depthAll (ns.map PyData.int) ≤ 1
  | [] => ⟨rfl, by simp [PyData.depthAll]⟩
  | n :: ns => by
    obtain ⟨h1, h2⟩ := lay_ints ns
    refine ⟨by simp [PyData.canLayAll0, PyData.canLay0, h1], ?_⟩
    simp [PyData.depthAll, PyData.depth] at h2 ⊢
    omega
theorem shaped_ints (ns : List Int) : SeqAt.shaped (.list (ns.map PyData.int)) = true := by
  obtain ⟨h1, h2⟩ := lay_ints ns
  simp [SeqAt.shaped, PyData.canLay0, PyData.depth, h1]
  omega
theorem eqv_nil (ns : List Int) : PyData.eqv (.list (ns.map PyData.int)) (.list []) = ns.isEmpty := by
  cases ns <;> simp [PyData.eqv, PyData.eqvAll]
theorem at_last {xs : List V} {v : V} (h : xs.getLast? = some v) : atI xs (-1) = some v := by
  have hl : 0 < xs.length := by
    cases xs with
    | nil => cases h
    | cons a l => simp
  unfold atI ixN
  rw [if_neg (by omega), if_pos (by omega)]
  show xs[((-1 : Int) + xs.length).toNat]? = some v
  rw [← h, List.getLast?_eq_getElem?]
  congr 1
  omega
section
variable {P : Program} {w : World} {K : PySem.W.Frag} {mg : Str → Option Value} {base : Heap} {f : Addr} {fd : FuncData}
theorem ok_lser (F : FnP K "_law_serial" "_law_serial" sLSer f fd) (mLi : mg "list" = none) : FnOk P w K mg base CX0 1 f fd ["_law_values_here", "_law_deeds"] (spLSer K) := by
  refine fok F scLSer (fun vs H Q E h => ?_) (fun cdv A outer s H vs Q E hr h => ?_)
  · obtain ⟨a, b, ns, ts, ds, rfl, _⟩ := h
    rfl
  · obtain ⟨a, b, ns, ts, ds, rfl, hN, hNl, hD, hR, hDl, k⟩ := h
    refine ⟨_, pss_cons (ps_set (i := 2) scLSer.nd rfl (.inl rfl) (pe_callTy call_list_of (by rfl) mLi (by decide +kernel) (pa_cons (pv 0) pa_nil)))
      (pss_cons (ps_set (i := 3) scLSer.nd rfl (.inl rfl) (pe_lst pa_nil))
      (pss_cons (ps_for PassesOwn.never rfl (pi_list (pv 1)) (pg_name (i := 4) scLSer.nd rfl (.inl rfl))
        (pss_one (ps_if (pt_cmpR op_eq (pe_ix ix_tup (pv 4) pe_int (fun _ _ => rfl)) pe_str (nomark _))
          (pss_cons (ps_set (i := 2) scLSer.nd rfl (.inl rfl) (pe_op op_cat (pv 2) (pe_lst (pa_cons (pe_ix ix_tup (pv 4) pe_int (fun _ _ => rfl)) pa_nil))))
          (pss_one (ps_expr (pe_bm PySem.F.plainAttrs_list PySem.F.slot_list_append PySem.F.type_list_append mt_append (pv 3) (pa_cons pe_str pa_nil)))))
          (pss_cons (ps_expr (pe_bm PySem.F.plainAttrs_list PySem.F.slot_list_append PySem.F.type_list_append mt_append (pv 3)
            (pa_cons (pe_ifExp (pt_cmpR (op_neD hr.units) (pv 2) (pe_lst pa_nil) (nomark _)) (pe_ix ix_list (pv 2) (pe_un un_neg pe_int) (fun _ _ => rfl)) pe_non) pa_nil)))
          (pss_one (ps_set (i := 2) scLSer.nd rfl (.inl rfl) (pe_slice sl_list (pv 2) po_none (po_some (pe_un un_neg pe_int)))))))))
      (pss_one (ps_ret (pe_tup (pa_cons (pv 3) (pa_cons (pv 2) pa_nil))))))), ?_⟩
    refine ⟨_, rfl, a, _, rfl, .inl hN, fun p np => ⟨Nat.zero_le _, fun A nA => ?_⟩⟩
    have pA : p ≠ A := fun q => by
      rw [q, upd_same] at nA
      cases nA
    have hA0 : H A = none := by
      rw [upd_ne (Ne.symm pA)] at nA
      exact nA
    have s0 : Same H (upd (upd H p (.lst (ns.map V.int))) A (.lst [])) := (same_upd np).trans (same_upd nA)
    refine ⟨_, rfl, b, rfl, ⟨_, s0.seq hD⟩, for_list (K := K) (a := b) (xs := ts.map V.ref) (fun i σ H' => Same H H' ∧ ∃ N : Addr, N ≠ A ∧ H' N = some (.lst ((acts ns (ds.take i)).2.map V.int)) ∧ H' A = some (.lst (acts ns (ds.take i)).1) ∧
        ∃ v : Option V, σ = [some (.ref a), some (.ref b), some (.ref N), some (.ref A), v])
      ⟨s0, p, pA, by rw [upd_ne pA, upd_same]; simp [acts], by rw [upd_same]; simp [acts], none, rfl⟩ (fun i σ H' _ z => z.1.seq hD) ?_ ?_⟩
    · rintro i x σ H' hi ⟨s3, N, nNA, e1, e2, v, rfl⟩
      have hi2 : i < ts.length := by
        have := (List.getElem?_eq_some_iff.mp hi).1
        rw [List.length_map] at this
        exact this
      have ex : x = V.ref ts[i] := by
        rw [List.getElem?_map, List.getElem?_eq_getElem hi2] at hi
        exact (Option.some.inj hi).symm
      subst ex
      obtain ⟨r, er, ht⟩ := hR.at_ (List.getElem?_eq_getElem hi2)
      have hid : i < ds.length := by
        have := hR.len
        rw [List.length_map] at this
        omega
      have er2 : r = ds[i].row := by
        rw [List.getElem?_map, List.getElem?_eq_getElem hid] at er
        exact (Option.some.inj er).symm
      subst er2
      have step := acts_take (pile := ns) (List.getElem?_eq_getElem hid)
      have l2 := acts_len2 ns (ds.take i)
      have l1 := acts_len1 ns (ds.take i)
      have lt : (ds.take i).length ≤ 1000 := by rw [List.length_take]; omega
      have ht' := same_tup s3 ht
      generalize hpile : acts ns (ds.take i) = st at *
      obtain ⟨ans, pile⟩ := st
      dsimp only at l1 l2 e1 e2 step
      generalize hdd : ds[i] = d at *
      cases d with
      | push u =>
        refine ⟨_, rfl, _, _, _, _, rfl, rfl, ht', rfl, rfl, _, rfl, iteT ?_⟩
        refine ⟨_, rfl, _, rfl, _, _, _, _, rfl, rfl, ht', rfl, (by show 1 ≤ sizeLine; decide), fun L nL => ?_⟩
        have nNL : N ≠ L := ne_of_none e1 nL
        have nAL : A ≠ L := ne_of_none e2 nL
        refine ⟨N, L, _, _, rfl, rfl, (by rw [upd_ne nNL]; exact e1), upd_same, ?_, fun M nM => ?_⟩
        · rw [List.length_map, sizeLine_eq]
          show pile.length + 1 ≤ _
          omega
        · have nM2 : H' M = none := by
            by_cases q : M = L
            · rw [q, upd_same] at nM
              cases nM
            · rw [upd_ne q] at nM
              exact nM
          have nAM : A ≠ M := ne_of_none e2 nM2
          have s4 : Same H' (upd (upd H' L (.lst [.int u])) M (.lst (pile.map V.int ++ [.int u]))) := (same_upd nL).trans (same_upd nM)
          refine ⟨_, rfl, .inl ⟨rfl, _, SqL.of (s4 _ _ e2)⟩, A, _, _, rfl, rfl, s4 _ _ e2, ?_, ?_⟩
          · rw [l1, sizeLine_eq]
            omega
          · rw [step]
            refine ⟨fun c o e => ?_, M, Ne.symm nAM, ?_, ?_, _, rfl⟩
            · rw [upd_ne (ne_of_none e hA0)]
              exact s4 _ _ (s3 c o e)
            · rw [upd_ne (Ne.symm nAM), upd_same]
              simp [act]
            · rw [upd_same]
              rfl
      | pop =>
        have np2 : decide (V.str sPop = V.str sPush) = false := by decide +kernel
        refine ⟨_, rfl, _, _, _, V.str sPop, rfl, rfl, ht', rfl, rfl, _, rfl, ?_⟩
        show (if decide (V.str sPop = V.str sPush) = true then _ else _)
        rw [np2]
        refine iteF ⟨_, rfl, .inl ⟨rfl, _, SqL.of e2⟩, _, rfl, Nat.zero_le _, fun Em nE => ?_⟩
        have s4 : Same H' (upd H' Em (.lst [])) := same_upd nE
        refine ⟨_, _, .lst (SqL.of (s4 _ _ e1)) (dpAll_ints pile), .lst (SqL.of upd_same) .nil, shaped_ints pile, by decide +kernel, _, rfl, ?_⟩
        rw [eqv_nil]
        cases hg : pile.getLast? with
        | none =>
          have en : pile = [] := by simpa using hg
          subst en
          refine iteF ⟨A, _, _, rfl, rfl, s4 _ _ e2, ?_, ?_⟩
          · rw [l1, sizeLine_eq]
            omega
          · have e1' : (upd (upd H' Em (.lst [])) A (.lst (ans ++ [.non]))) N = some (.lst []) := by
              rw [upd_ne nNA]
              exact s4 _ _ e1
            refine ⟨_, rfl, _, rfl, _, rfl, N, _, rfl, SqL.of e1', fun M nM => ?_⟩
            have nM2 : H' M = none := by
              by_cases q : M = A
              · rw [q, upd_same] at nM
                cases nM
              · rw [upd_ne q] at nM
                exact s4.free nM
            have nAM : A ≠ M := ne_of_none e2 nM2
            rw [step]
            refine ⟨fun c o e => ?_, M, Ne.symm nAM, ?_, ?_, _, rfl⟩
            · have h1 := s3 c o e
              rw [upd_ne (ne_of_none h1 nM2), upd_ne (ne_of_none e hA0)]
              exact s4 _ _ h1
            · rw [upd_same]
              simp [act, cut_last]
            · rw [upd_ne nAM, upd_same]
              simp [act]
        | some u =>
          have hne : pile.isEmpty = false := by
            cases pile with
            | nil => cases hg
            | cons q l => rfl
          rw [hne]
          have hlast : (pile.map V.int).getLast? = some (V.int u) := by rw [List.getLast?_map, hg]; rfl
          refine iteT ⟨_, rfl, _, rfl, _, _, _, _, rfl, rfl, SqL.of (s4 _ _ e1), at_last hlast, A, _, _, rfl, rfl, s4 _ _ e2, ?_, ?_⟩
          · rw [l1, sizeLine_eq]
            omega
          · have e1' : (upd (upd H' Em (.lst [])) A (.lst (ans ++ [.int u]))) N = some (.lst (pile.map V.int)) := by
              rw [upd_ne nNA]
              exact s4 _ _ e1
            refine ⟨_, rfl, _, rfl, _, rfl, N, _, rfl, SqL.of e1', fun M nM => ?_⟩
            have nM2 : H' M = none := by
              by_cases q : M = A
              · rw [q, upd_same] at nM
                cases nM
              · rw [upd_ne q] at nM
                exact s4.free nM
            have nAM : A ≠ M := ne_of_none e2 nM2
            have ea : act pile .pop = (.int u, pile.dropLast) := by simp [act, hg]
            rw [step, ea]
            refine ⟨fun c o e => ?_, M, Ne.symm nAM, ?_, ?_, _, rfl⟩
            · have h1 := s3 c o e
              rw [upd_ne (ne_of_none h1 nM2), upd_ne (ne_of_none e hA0)]
              exact s4 _ _ h1
            · rw [upd_same]
              simp [cut_last, List.map_dropLast]
            · rw [upd_ne nAM, upd_same]
    · rintro σ H' ⟨s3, N, nNA, e1, e2, v, rfl⟩
      have full : ds.take (ts.map V.ref).length = ds := by
        have := hR.len
        rw [List.length_map] at this
        rw [List.length_map, this, List.take_length]
      rw [full] at e1 e2
      refine ⟨_, rfl, _, rfl, (by show 2 ≤ sizeLine; decide), fun t nt => ?_⟩
      exact k t A N _ (s3.trans (same_upd nt)) upd_same (by rw [upd_ne (ne_of_none e2 nt)]; exact e2) (by rw [upd_ne (ne_of_none e1 nt)]; exact e1)
end
end Sk


namespace Sk
open PySem PySem.Spec PyProof.Rows L2 L2H HotX
abbrev sIs : Stmt := top 24
abbrev sTold : Stmt := top 25
abbrev sLaw : Stmt := top 26
/-- the four classes and their names -/
structure TxIs (K : PySem.W.Frag) (mg : Str → Option Value) (CP CD CR CH : Addr) : Prop where
  gP : mg "BadPile" = some (.ref CP)
  gD : mg "BadDeed" = some (.ref CD)
  gR : mg "BadRule" = some (.ref CR)
  gH : mg "NoHand" = some (.ref CH)
  isi : mg "isinstance" = none
  ve : mg "ValueError" = none
/-- an error of the class at D is of these of the four -/
structure KindOf (K : PySem.W.Frag) (D CP CD CR CH : Addr) (k0 k1 k2 k3 : Bool) : Prop where
  exc : ExcC K D
  b0 : PySem.W.kitOne K (.ref D) (.ref CP) = some k0
  b1 : PySem.W.kitOne K (.ref D) (.ref CD) = some k1
  b2 : PySem.W.kitOne K (.ref D) (.ref CR) = some k2
  b3 : PySem.W.kitOne K (.ref D) (.ref CH) = some k3
  bv : PySem.W.kitOne K (.ref D) (.type "ValueError") = some true
abbrev sPile : Str := "pile"
abbrev sDeedW : Str := "deed"
abbrev sRule : Str := "rule"
abbrev sHand : Str := "hand"
def wordsAre (z : Str) : List Bool := [decide (z = sPile), decide (z = sDeedW), decide (z = sRule), decide (z = sHand)]
/-- is it of the kind that the word says? -/
def spIs (K : PySem.W.Frag) (CP CD CR CH : Addr) : Value → Option Addr → Addr → Sp := fun cls dd a vs H Q _ => ∃ (z : Str) (D d : Addr) (fs : List (Str × V)) (k0 k1 k2 k3 : Bool), vs = [.ref a, .str z] ∧ cls = .ref D ∧ dd = some d ∧ H d = some (.xd fs) ∧
  KindOf K D CP CD CR CH k0 k1 k2 k3 ∧ ∀ H', Same H H' → Q (.bl (decide ([k0, k1, k2, k3] = wordsAre z))) H'
theorem dp_bools {K : PySem.W.Frag} {H : Hp} : ∀ bs : List Bool, DpAll K H (bs.map V.bl) (bs.map PyData.bool)
  | [] => .nil
  | b :: bs => .cons (.bl b) (dp_bools bs)
theorem lay_bools : ∀ bs : List Bool, PyData.canLayAll0 (bs.map PyData.bool) = true ∧ PyData.depthAll (bs.map PyData.bool) ≤ 1
  | [] => ⟨rfl, by simp [PyData.depthAll]⟩
  | n :: ns => by
    obtain ⟨h1, h2⟩ := lay_bools ns
    refine ⟨by simp [PyData.canLayAll0, PyData.canLay0, h1], ?_⟩
    simp [PyData.depthAll, PyData.depth] at h2 ⊢
    omega
theorem shaped_bools (bs : List Bool) : SeqAt.shaped (.list (bs.map PyData.bool)) = true := by
  obtain ⟨h1, h2⟩ := lay_bools bs
  simp [SeqAt.shaped, PyData.canLay0, PyData.depth, h1]
  omega
theorem eqv_bools : ∀ as bs : List Bool, PyData.eqvAll (as.map PyData.bool) (bs.map PyData.bool) = decide (as = bs)
  | [], [] => by simp [PyData.eqvAll]
  | [], b :: bs => by simp [PyData.eqvAll]
  | a :: as, [] => by simp [PyData.eqvAll]
  | a :: as, b :: bs => by
    simp only [List.map_cons, PyData.eqvAll, PyData.eqv, eqv_bools as bs]
    rw [Bool.eq_iff_iff]
    simp
section
variable {P : Program} {w : World} {K : PySem.W.Frag} {mg : Str → Option Value} {base : Heap} {f : Addr} {fd : FuncData} {CP CD CR CH : Addr}
theorem scIs : FnScope ["_law_e", "_law_word", "_law_kinds", "_law_words", "_law_one"] ["_law_e", "_law_word"] (defScope sIs) := ⟨rfl, rfl, rfl, by decide +kernel, rfl, by decide +kernel, by decide +kernel⟩
theorem ok_is (F : FnP K "_law_is" "_law_is" sIs f fd) (T : TxIs K mg CP CD CR CH) : FnE P w K mg base CX0 1 f fd ["_law_e", "_law_word"] (ofErr (spIs K CP CD CR CH)) := by
  refine fn_hot F scIs (fun p vs H Q E h => ?_) (fun cdv A outer s H vs Q E p hot hr h => ?_)
  · obtain ⟨⟨z, D, d, fs, k0, k1, k2, k3, rfl, _⟩, _⟩ := h
    rfl
  · obtain ⟨⟨z, D, d, fs, k0, k1, k2, k3, rfl, hc, hd, hx, kd, k⟩, hv⟩ := h
    have ie : IsErr p D d := ⟨hc, hd, hv⟩
    have hu : A.units + 3 + 64 < cLine := by
      have := hr.un
      have e : (A.deeper (envOfC "_law_is" (defScope sIs) s.heap.objs.size f cdv)).units = A.units + 3 := rfl
      omega
    have hN : List.Nodup (["_law_e", "_law_word", "_law_kinds", "_law_words", "_law_one"] : List Str) := scIs.nd
    refine ⟨_, pss_cons (ps_set (i := 2) scIs.nd rfl (.inl rfl) (pe_lst (pa_cons (pe_callB (call_isH (p := p) List.mem_cons_self ie kd.exc) (by rfl) T.isi boot_isinstance (pa_cons (pv 0) (pa_cons (pe_glob (v := .ref CP) (by rfl) T.gP rfl) pa_nil)))
        (pa_cons (pe_callB (call_isH (p := p) List.mem_cons_self ie kd.exc) (by rfl) T.isi boot_isinstance (pa_cons (pv 0) (pa_cons (pe_glob (v := .ref CD) (by rfl) T.gD rfl) pa_nil)))
        (pa_cons (pe_callB (call_isH (p := p) List.mem_cons_self ie kd.exc) (by rfl) T.isi boot_isinstance (pa_cons (pv 0) (pa_cons (pe_glob (v := .ref CR) (by rfl) T.gR rfl) pa_nil)))
        (pa_cons (pe_callB (call_isH (p := p) List.mem_cons_self ie kd.exc) (by rfl) T.isi boot_isinstance (pa_cons (pv 0) (pa_cons (pe_glob (v := .ref CH) (by rfl) T.gH rfl) pa_nil))) pa_nil))))))
      (pss_cons (ps_set (i := 3) scIs.nd rfl (.inl rfl) (pe_lst (pa_cons pe_str (pa_cons pe_str (pa_cons pe_str (pa_cons pe_str pa_nil))))))
      (pss_one (ps_ret (pe_and (pe_callB (call_isH (p := p) List.mem_cons_self ie kd.exc) (by rfl) T.isi boot_isinstance (pa_cons (pv 0) (pa_cons (pe_bltn (v := .ty "ValueError") (by rfl) T.ve (by decide +kernel) rfl) pa_nil)))
        (pe_one (pe_cmpR (op_eqD hu) (pv 2) (pe_lcHot (own := [("_law_one", 4)]) (g := gName 4) ⟨p, hot, List.mem_cons_self⟩ hN (pv 3)
          (blkOk_by (N := ["_law_e", "_law_word", "_law_kinds", "_law_words", "_law_one"]) (sc := defScope sIs) (by decide +kernel)) (fun _ _ _ _ _ => pg_name (i := 4) hN rfl (Or.inl rfl))
          (fun _ _ _ _ _ => pe_cmpR op_eq (pv 1) (pv 4) (nomark _))) (nomark _))))))), ?_⟩
    refine ⟨_, rfl, ⟨fs, hx⟩, _, _, _, rfl, .own CP, kd.b0, ?_⟩
    refine ⟨_, rfl, ⟨fs, hx⟩, _, _, _, rfl, .own CD, kd.b1, ?_⟩
    refine ⟨_, rfl, ⟨fs, hx⟩, _, _, _, rfl, .own CR, kd.b2, ?_⟩
    refine ⟨_, rfl, ⟨fs, hx⟩, _, _, _, rfl, .own CH, kd.b3, ?_⟩
    refine ⟨by show 4 ≤ sizeLine; decide, fun L1 n1 => ⟨by show 4 ≤ sizeLine; decide, fun L2 n2 => ?_⟩⟩
    have s1 := same_upd (o := .lst [V.bl k0, .bl k1, .bl k2, .bl k3]) n1
    have s2 := same_upd (o := .lst [V.str sPile, .str sDeedW, .str sRule, .str sHand]) n2
    have hx2 := s2 _ _ (s1 _ _ hx)
    have hk := s2 _ _ (upd_same (H := H) (a := L1) (o := .lst [V.bl k0, .bl k1, .bl k2, .bl k3]))
    refine ⟨_, rfl, ⟨fs, hx2⟩, _, _, _, rfl, .ty _, kd.bv, _, rfl, iteT ⟨_, rfl, _, rfl, _, rfl, ⟨_, SqL.of upd_same⟩, fun D2 nD2 => ?_⟩⟩
    refine lc_list (K := K) (a := L2) (xs := [V.str sPile, .str sDeedW, .str sRule, .str sHand]) (fun i H' => Same (upd (upd H L1 (.lst [V.bl k0, .bl k1, .bl k2, .bl k3])) L2 (.lst [V.str sPile, .str sDeedW, .str sRule, .str sHand])) H' ∧
        H' D2 = some (.lst (((wordsAre z).take i).map V.bl))) ⟨same_upd nD2, upd_same⟩ (fun i H' _ e => e.1.seq (SqL.of upd_same)) ?_ ?_
    · rintro i y H' hi ⟨s3, e⟩
      have hi4 : i < 4 := (List.getElem?_eq_some_iff.mp hi).1
      obtain ⟨u, rfl, eu⟩ : ∃ u : Str, y = .str u ∧ (wordsAre z)[i]? = some (decide (z = u)) := by
        match i, hi4, hi with
        | 0, _, h => exact ⟨_, (Option.some.inj h).symm, rfl⟩
        | 1, _, h => exact ⟨_, (Option.some.inj h).symm, rfl⟩
        | 2, _, h => exact ⟨_, (Option.some.inj h).symm, rfl⟩
        | 3, _, h => exact ⟨_, (Option.some.inj h).symm, rfl⟩
      refine ⟨rfl, tyes ⟨_, rfl, _, rfl, rfl, _, e, ?_, fun c o q => ?_, ?_⟩⟩
      · rw [List.length_map, List.length_take, sizeLine_eq]
        omega
      · rw [upd_ne (ne_of_none q nD2)]
        exact s3 c o q
      · rw [upd_same, List.take_add_one, eu, List.map_append]
        have ed : decide (V.str z = V.str u) = decide (z = u) := by
          rw [Bool.eq_iff_iff]
          simp
        rw [ed]
        rfl
    · rintro H' ⟨s3, e⟩
      have s4 : Same H H' := (s1.trans s2).trans s3
      refine ⟨_, _, .lst (SqL.of (s3 _ _ hk)) (dp_bools [k0, k1, k2, k3]), .lst (SqL.of e) (dp_bools _), shaped_bools _, shaped_bools _, ?_⟩
      have eq : PyData.eqv (.list ([k0, k1, k2, k3].map PyData.bool)) (.list (((wordsAre z).take 4).map PyData.bool)) = decide ([k0, k1, k2, k3] = wordsAre z) := eqv_bools _ _
      rw [show ([V.str sPile, .str sDeedW, .str sRule, .str sHand] : List V).length = 4 from rfl, eq]
      exact k _ s4
end
end Sk
namespace Sk
open PySem PySem.Spec PyProof.Rows L2 L2H HotX
/-- what is told of values and deeds of which some cannot be -/
def ToldAs (ns : List Int) (rs : List Row) (out : List V) : Prop := (6 < ns.length ∧ out = [.str sPile, .int 6]) ∨ (ns.length ≤ 6 ∧ ∃ i : Nat, firstNot valB ns = some i ∧ out = [.str sPile, .int (i : Int)]) ∨
  (ns.length ≤ 6 ∧ firstNot valB ns = none ∧ ∃ i : Nat, firstNot okRow rs = some i ∧ out = [.str sDeedW, .int 0, .int (i : Int)])
def spTold (K : PySem.W.Frag) : Sp := fun vs H Q _ => ∃ (a b : Addr) (ns : List Int) (ts : List Addr) (rs : List Row) (out : List V), vs = [.ref a, .ref b] ∧ SqL K H a (ns.map V.int) ∧ ns.length ≤ 1000 ∧ SqL K H b (ts.map V.ref) ∧ Rows K H ts rs ∧ ts.length ≤ 1000 ∧ (∀ r ∈ rs, Lay r) ∧
  ToldAs ns rs out ∧ ∀ (l : Addr) (H' : Hp), Same H H' → H l = none → H' l = some (.lst out) → Q (.ref l) H'
/-- reading the suite -/
def tIsW (K : PySem.W.Frag) (CP CD CR CH : Addr) (a : Addr) (cls : Value) (d : Option Addr) (z : Str) : TE := fun σ H Q => tCons (tVar 2) (tCons (tC (.str z)) tNil) σ H fun vs H1 => spIs K CP CD CR CH cls d a vs H1 Q E0
def t_suite (K : PySem.W.Frag) (CP CD CR CH : Addr) : Addr → Value → Option Addr → TS := fun a cls d =>
  tSeq (tIfS (tB (tIsW K CP CD CR CH a cls d sPile)) (tRet (tLst (tCons (tC (.str sPile)) (tCons (tXf a cls d CP "at" (tVar 2)) tNil)))) tNext)
    (tRet (tIf (tB (tIsW K CP CD CR CH a cls d sDeedW)) (tLst (tCons (tC (.str sDeedW)) (tCons (tXf a cls d CD "hand" (tVar 2)) (tCons (tXf a cls d CD "number" (tVar 2)) tNil)))) (tC .non)))
theorem takesN0 {X : Cx} : L2N.Takes X (fun _ _ _ _ => False) := fun _ _ x => by
  obtain ⟨_, _, _, _, _, _, _, _, _, _, _, _, _, _, _, _, z⟩ := x
  exact z.elim
/-- what a caught error tells -/
structure TxTold (K : PySem.W.Frag) (mg : Str → Option Value) (B CP CD CR CH fS fI : Addr) : Prop where
  gB : mg "PileError" = some (.ref B)
  gS : mg "serial" = some (.ref fS)
  gI : mg "_law_is" = some (.ref fI)
  eP : PySem.W.exmOne K (.ref CP) (.ref B) = some true
  eD : PySem.W.exmOne K (.ref CD) (.ref B) = some true
  xP : XfC K CP
  xD : XfC K CD
  nP : PySem.W.findIn K (.ref CP) "at" = some none
  nH : PySem.W.findIn K (.ref CD) "hand" = some none
  nN : PySem.W.findIn K (.ref CD) "number" = some none
  kP : KindOf K CP CP CD CR CH true false false false
  kD : KindOf K CD CP CD CR CH false true false false
theorem w_pile : wordsAre sPile = [true, false, false, false] := by decide +kernel
theorem w_deed : wordsAre sDeedW = [false, true, false, false] := by decide +kernel
section
variable {P : Program} {w : World} {K : PySem.W.Frag} {mg : Str → Option Value} {base : Heap} {f : Addr} {fd : FuncData} {B CP CD CR CH fS fI : Addr} {fdS fdI : FuncData}
theorem scTold : FnScope ["_law_values_here", "_law_deeds", "_law_e"] ["_law_values_here", "_law_deeds"] (defScope sTold) := ⟨rfl, rfl, rfl, by decide +kernel, rfl, by decide +kernel, by decide +kernel⟩
theorem ok_told (F : FnP K "_law_told" "_law_told" sTold f fd) (T : TxTold K mg B CP CD CR CH fS fI) (FS : FnP K "serial" "serial" sSerial fS fdS) (GS : FnOk P w K mg base (L2N.CX P w) 4 fS fdS ["values", "deeds"] (spSerial K CP CD))
    (FI : FnP K "_law_is" "_law_is" sIs fI fdI) (GI : FnE P w K mg base CX0 1 fI fdI ["_law_e", "_law_word"] (ofErr (spIs K CP CD CR CH))) : FnOk P w K mg base CX0 5 f fd ["_law_values_here", "_law_deeds"] (spTold K) := by
  have bS : Binds K fdS ["values", "deeds"] [] := FS.bindsN fun _ _ _ _ _ _ us hl => match us, hl with | [_, _], _ => rfl
  have bI : Binds K fdI ["_law_e", "_law_word"] [] := FI.bindsN fun _ _ _ _ _ _ us hl => match us, hl with | [_, _], _ => rfl
  refine fok F scTold (fun vs H Q E h => ?_) (fun cdv A outer s H vs Q E hr h => ?_)
  · obtain ⟨a, b, ns, ts, rs, out, rfl, _⟩ := h
    rfl
  · obtain ⟨a, b, ns, ts, rs, out, rfl, hN, hNl, hD, hR, hDl, hL, told, k⟩ := h
    have hrI : Room 1 (A.deeper (envOfC "_law_told" (defScope sTold) s.heap.objs.size f cdv)) := hr.mono (by decide)
    refine ⟨_, pss_one (L2N.ps_try_as (i := 2) (tb := fun W => tRet (tCallS (spSerial K CP CD) (WE W) (tCons (tVar 0) (tCons (tVar 1) tNil)))) (ts := t_suite K CP CD CR CH) (Wout := fun _ _ _ _ => False) rfl rfl scTold.nd rfl rfl ⟨rfl, by decide, Or.inl T.gB⟩ takesN0
      (fun W pn xe tk _ => pss_one (ps_ret (by exact (pe_callS GS hr rfl T.gS FS.kp bS (fun σ => L2N.passAt tk σ) (by exact (pa_cons (pv 0) (pa_cons (pv 1) pa_nil)))))))
      (fun a oe cls d pn hz hf => pss_cons (ps_if (pt_val (by exact (pe_callZ GI (roomH_of hrI) hz hf (by rfl) T.gI FI.kp bI pass0 (pa_cons (pv 2) (pa_cons pe_str pa_nil)))))
          (pss_one (ps_ret (pe_lst (pa_cons pe_str (pa_cons (by exact (pe_xf T.xP T.nP hz.zc hf (pv 2))) pa_nil))))) pss_nil)
        (pss_one (ps_ret (pe_ifExp (pt_val (by exact (pe_callZ GI (roomH_of hrI) hz hf (by rfl) T.gI FI.kp bI pass0 (pa_cons (pv 2) (pa_cons pe_str pa_nil)))))
          (pe_lst (pa_cons pe_str (pa_cons (by exact (pe_xf T.xD T.nH hz.zc hf (pv 2))) (pa_cons (by exact (pe_xf T.xD T.nN hz.zc hf (pv 2))) pa_nil)))) pe_non))))), ?_⟩
    -- a BadPile
    have pile : ∀ n : Int, (∀ (l : Addr) (H' : Hp), Same H H' → H l = none → H' l = some (.lst [.str sPile, .int n]) → Q (.ref l) H') →
        Wants (WE (wAs K (.ref B) 2 (t_suite K CP CD CR CH) (fun _ _ _ _ => False) { nx := fun _ H' => Q .non H', rt := Q }) (L2.start ["_law_values_here", "_law_deeds", "_law_e"] [.ref a, .ref b])) H CP [("at", .int n)] := fun n kq d H' s1 e => by
      refine ⟨true, T.eP, fun _ a0 na => ?_, fun q => Bool.noConfusion q⟩
      refine ⟨_, rfl, sPile, CP, d, _, true, false, false, false, rfl, rfl, rfl, e, T.kP, fun H2 s2 => ⟨_, rfl, ?_⟩⟩
      rw [w_pile]
      refine ite2 (fun _ => ?_) (fun q => absurd (by decide) q)
      refine ⟨_, rfl, rfl, rfl, d, _, .int n, rfl, s2 _ _ e, (by simp [List.lookup]), (by show 2 ≤ sizeLine; decide), fun l nl => ?_⟩
      exact kq l _ ((s1.trans s2).trans (same_upd nl)) ((s1.trans s2).free nl) upd_same
    have deed : ∀ n : Int, (∀ (l : Addr) (H' : Hp), Same H H' → H l = none → H' l = some (.lst [.str sDeedW, .int 0, .int n]) → Q (.ref l) H') →
        Wants (WE (wAs K (.ref B) 2 (t_suite K CP CD CR CH) (fun _ _ _ _ => False) { nx := fun _ H' => Q .non H', rt := Q }) (L2.start ["_law_values_here", "_law_deeds", "_law_e"] [.ref a, .ref b])) H CD [("number", .int n), ("hand", .int 0)] := fun n kq d H' s1 e => by
      refine ⟨true, T.eD, fun _ a0 na => ?_, fun q => Bool.noConfusion q⟩
      refine ⟨_, rfl, sPile, CD, d, _, false, true, false, false, rfl, rfl, rfl, e, T.kD, fun H2 s2 => ⟨_, rfl, ?_⟩⟩
      rw [w_pile]
      refine ite2 (fun q => absurd q (by decide)) (fun _ => ?_)
      refine ⟨_, rfl, sDeedW, CD, d, _, false, true, false, false, rfl, rfl, rfl, s2 _ _ e, T.kD, fun H3 s3 => ⟨_, rfl, ?_⟩⟩
      rw [w_deed]
      refine ite2 (fun _ => ?_) (fun q => absurd (by decide) q)
      have l1 : List.lookup (Str.ofString "hand") [((Str.ofString "number" : Str), V.int n), (Str.ofString "hand", V.int 0)] = some (.int 0) := by
        have q : ((Str.ofString "hand" : Str) == Str.ofString "number") = false := by decide +kernel
        simp [List.lookup, q]
      refine ⟨_, rfl, rfl, rfl, d, _, .int 0, rfl, s3 _ _ (s2 _ _ e), l1, _, rfl, rfl, rfl, d, _, .int n, rfl, s3 _ _ (s2 _ _ e), (by simp [List.lookup]), (by show 3 ≤ sizeLine; decide), fun l nl => ?_⟩
      exact kq l _ (((s1.trans s2).trans s3).trans (same_upd nl)) (((s1.trans s2).trans s3).free nl) upd_same
    refine ⟨_, rfl, _, rfl, a, b, ns, ts, rs, rfl, hN, hNl, hD, hR, hDl, hL, fun h6 => ?_, fun h6 i hi => ?_, fun h6 hv i hi => ?_, fun h6 hv ds ed fit => ?_⟩
    · rcases told with ⟨_, rfl⟩ | ⟨z, _⟩ | ⟨z, _⟩
      · exact pile 6 k
      · omega
      · omega
    · rcases told with ⟨z, _⟩ | ⟨_, j, hj, rfl⟩ | ⟨_, z, _⟩
      · omega
      · rw [hi] at hj
        cases hj
        exact pile _ k
      · rw [hi] at z
        cases z
    · rcases told with ⟨z, _⟩ | ⟨_, j, hj, _⟩ | ⟨_, _, j, hj, rfl⟩
      · omega
      · rw [hv] at hj
        cases hj
      · rw [hi] at hj
        cases hj
        exact deed _ k
    · rcases told with ⟨z, _⟩ | ⟨_, j, hj, _⟩ | ⟨_, _, j, hj, _⟩
      · omega
      · rw [hv] at hj
        cases hj
      · have e : firstNot okRow rs = none := firstNot_all fun x hx => by
          rw [ed] at hx
          obtain ⟨d, hd, rfl⟩ := List.mem_map.mp hx
          exact deed_ok (fit d hd)
        rw [e] at hj
        cases hj
end
end Sk


namespace Sk
open PySem PySem.Spec PyProof.Rows L2
theorem passN {X : Cx} : Passes (L2N.CX X.prog X.w) X E0 := fun _ _ _ _ _ _ _ h => by
  obtain ⟨_, _, _, _, _, _, _, _, _, _, _, _, z⟩ := h
  exact z.elim
theorem cut_to {xs : List V} {k : Nat} : cutV xs none (some (k : Int)) = xs.take k := by
  unfold cutV
  rw [HT.sIx_none, HT.sIx_nat]
  simp [List.take_eq_take_iff]
theorem cut_from {xs : List V} {k : Nat} : cutV xs (some (k : Int)) none = xs.drop k := by
  unfold cutV
  rw [HT.sIx_none, HT.sIx_nat]
  rw [List.take_of_length_le (by rw [List.length_drop]; exact Nat.le_refl _)]
  by_cases h : k ≤ xs.length
  · rw [Nat.min_eq_left h]
  · rw [Nat.min_eq_right (by omega), List.drop_eq_nil_of_le (Nat.le_refl _), List.drop_eq_nil_of_le (by omega)]
/-- a tuple stands where a list is stored to -/
theorem sqt_upd {K : PySem.W.Frag} {H : Hp} {D t : Addr} {xs : List V} {l : List V} {o : HO} (e : H D = some (.lst l)) (h : SqT K H t xs) : SqT K (upd H D o) t xs := by
  rcases h with (h | ⟨u, h⟩) | h
  · exact .inl (.inl (by rw [upd_ne (ne_of h e (by intro z; cases z))]; exact h))
  · exact .inl (.inr ⟨u, by rw [upd_ne (ne_of h e (by intro z; cases z))]; exact h⟩)
  · exact .inr h
theorem sqt_but {K : PySem.W.Frag} {H H' : Hp} {p t : Addr} {xs l : List V} (b : But p H H') (e : H p = some (.lst l)) (h : SqT K H t xs) : SqT K H' t xs := by
  rcases h with (h | ⟨u, h⟩) | h
  · exact .inl (.inl (b _ _ (ne_of h e (by intro z; cases z)) h))
  · exact .inl (.inr ⟨u, b _ _ (ne_of h e (by intro z; cases z)) h⟩)
  · exact .inr h
mutual
theorem eqv_self : ∀ d : PyData, d.canLay0 = true → PyData.eqv d d = true
  | .none, _ => by simp [PyData.eqv]
  | .bool b, _ => by simp [PyData.eqv]
  | .int i, _ => by simp [PyData.eqv]
  | .str s, _ => by simp [PyData.eqv]
  | .list xs, h => by
    simp [PyData.canLay0] at h
    simp [PyData.eqv, eqvAll_self xs h]
  | .tuple xs, h => by
    simp [PyData.canLay0] at h
    simp [PyData.eqv, eqvAll_self xs h]
  | .dict kvs, h => by simp [PyData.canLay0] at h
theorem eqvAll_self : ∀ xs : List PyData, PyData.canLayAll0 xs = true → PyData.eqvAll xs xs = true
  | [], _ => by simp [PyData.eqvAll]
  | x :: xs, h => by
    simp [PyData.canLayAll0] at h
    simp [PyData.eqvAll, eqv_self x h.1, eqvAll_self xs h.2]
end
theorem rowD_depth (r : Row) : PyData.depthAll (rowD r) ≤ 1 := by
  cases r with
  | none => simp [rowD, PyData.depthAll]
  | some p =>
    have := (lay_ints p.2).2
    simp [rowD, PyData.depthAll, PyData.depth]
    omega
theorem lay_rows : ∀ rs : List Row, (∀ r ∈ rs, Lay r) → PyData.canLayAll0 (rs.map fun r => PyData.tuple (rowD r)) = true ∧ PyData.depthAll (rs.map fun r => PyData.tuple (rowD r)) ≤ 2
  | [], _ => ⟨rfl, by simp [PyData.depthAll]⟩
  | r :: rs, h => by
    obtain ⟨h1, h2⟩ := lay_rows rs fun x hx => h x (List.mem_cons_of_mem _ hx)
    have h3 := (Bool.and_eq_true_iff.mp (h r List.mem_cons_self)).1
    have h4 := rowD_depth r
    refine ⟨by simp [PyData.canLayAll0, h1, h3], ?_⟩
    simp [PyData.depthAll, PyData.depth] at h2 ⊢
    omega
/-- values and deeds as they were handed in -/
abbrev dHanded (xs : List Int) (ds : List Deed) : PyData := .list [.list (xs.map PyData.int), .list ((ds.map Deed.row).map fun r => PyData.tuple (rowD r))]
theorem lay_deeds (ds : List Deed) : ∀ r ∈ ds.map Deed.row, Lay r := fun r hr => by
  obtain ⟨d, _, rfl⟩ := List.mem_map.mp hr
  exact deed_lay d
theorem shaped_handed (xs : List Int) (ds : List Deed) : SeqAt.shaped (dHanded xs ds) = true := by
  obtain ⟨h1, h2⟩ := lay_ints xs
  obtain ⟨h3, h4⟩ := lay_rows (ds.map Deed.row) (lay_deeds ds)
  refine Bool.and_eq_true_iff.mpr ⟨?_, decide_eq_true ?_⟩
  · simp only [dHanded, PyData.canLay0, PyData.canLayAll0, h1, h3]
    rfl
  · simp only [dHanded, PyData.depth, PyData.depthAll]
    omega
theorem eqv_handed (xs : List Int) (ds : List Deed) : PyData.eqv (dHanded xs ds) (dHanded xs ds) = true := eqv_self _ (Bool.and_eq_true_iff.mp (shaped_handed xs ds)).1
/-- what stands while the law runs: the dice at p, the values at v, the deeds at e -/
structure Stand (K : PySem.W.Frag) (H : Hp) (p a v e : Addr) (ns xs : List Int) (ts : List Addr) (ds : List Deed) : Prop where
  di : Dice K H p a ns
  va : H v = some (.lst (xs.map V.int))
  de : H e = some (.lst (ts.map V.ref))
  ro : Rows K H ts (ds.map Deed.row)
  nv : v ≠ p
  ne : e ≠ p
theorem Stand.same {K : PySem.W.Frag} {H H' : Hp} {p a v e : Addr} {ns xs : List Int} {ts : List Addr} {ds : List Deed} (s : Stand K H p a v e ns xs ts ds) (k : Same H H') : Stand K H' p a v e ns xs ts ds :=
  ⟨s.di.same k, k _ _ s.va, k _ _ s.de, s.ro.mono fun t ys z => same_tup k z, s.nv, s.ne⟩
theorem Stand.drew {K : PySem.W.Frag} {H H' : Hp} {p a v e : Addr} {ns xs : List Int} {ts : List Addr} {ds : List Deed} (s : Stand K H p a v e ns xs ts ds) (k : Drew K p a ns H H') : Stand K H' p a v e ns xs ts ds := by
  obtain ⟨l, hl⟩ := s.di.some
  exact ⟨k.d, k.b _ _ s.nv s.va, k.b _ _ s.ne s.de, s.ro.mono fun t ys z => sqt_but k.b hl z, s.nv, s.ne⟩
/-- the answers and the pile, as data -/
abbrev dActs (xs : List Int) (ds : List Deed) : PyData := .tuple [.list ((acts xs ds).1.map ansD), .list ((acts xs ds).2.map PyData.int)]
theorem fits_acts {xs : List Int} {ds : List Deed} (h1 : xs.length ≤ 1000) (h2 : ds.length ≤ 1000) : Fits 3 (dActs xs ds) := by
  refine .tup 2 (by show 2 ≤ 100000; decide) fun d hd => ?_
  have l1 := acts_len1 xs ds
  have l2 := acts_len2 xs ds
  rcases List.mem_cons.mp hd with rfl | hd
  · refine .lst 1 (by rw [List.length_map]; omega) fun d hd => ?_
    obtain ⟨v, hv, rfl⟩ := List.mem_map.mp hd
    exact ans_fit (acts_ans xs ds v hv) 0
  · rw [List.mem_singleton.mp hd]
    refine .lst 1 (by rw [List.length_map]; omega) fun d hd => ?_
    obtain ⟨i, hi, rfl⟩ := List.mem_map.mp hd
    exact .int 0 i
theorem dp_acts {K : PySem.W.Frag} {H : Hp} {t A B : Addr} {xs : List Int} {ds : List Deed} (h1 : H t = some (.tup [.ref A, .ref B])) (h2 : H A = some (.lst (acts xs ds).1)) (h3 : H B = some (.lst ((acts xs ds).2.map V.int))) : Dp K H (.ref t) (dActs xs ds) :=
  .tup (SqT.of h1) (.cons (.lst (SqL.of h2) (anss_dp (acts_ans xs ds))) (.cons (.lst (SqL.of h3) (dpAll_ints _)) .nil))
theorem dp_handed {K : PySem.W.Frag} {H : Hp} {h v e : Addr} {xs : List Int} {ts : List Addr} {ds : List Deed} (h1 : H h = some (.lst [.ref v, .ref e])) (h2 : H v = some (.lst (xs.map V.int))) (h3 : H e = some (.lst (ts.map V.ref))) (h4 : Rows K H ts (ds.map Deed.row)) : Dp K H (.ref h) (dHanded xs ds) :=
  .lst (SqL.of h1) (.cons (.lst (SqL.of h2) (dpAll_ints xs)) (.cons (.lst (SqL.of h3) h4.dp) .nil))
/-- told lists -/
theorem dp_pile {K : PySem.W.Frag} {H : Hp} {l : Addr} {n : Int} (h : H l = some (.lst [.str sPile, .int n])) : Dp K H (.ref l) (.list [.str sPile, .int n]) := .lst (SqL.of h) (.cons (.str _) (.cons (.int _) .nil))
theorem dp_deed {K : PySem.W.Frag} {H : Hp} {l : Addr} {n : Int} (h : H l = some (.lst [.str sDeedW, .int 0, .int n])) : Dp K H (.ref l) (.list [.str sDeedW, .int 0, .int n]) := .lst (SqL.of h) (.cons (.str _) (.cons (.int _) (.cons (.int _) .nil)))
theorem fits_pile (n : Int) : Fits 3 (.list [.str sPile, .int n]) := .lst 2 (by show 2 ≤ 100000; decide) fun d hd => by
  rcases List.mem_cons.mp hd with rfl | hd
  · exact .str 1 _
  · rw [List.mem_singleton.mp hd]
    exact .int 1 _
theorem fits_deed (n : Int) : Fits 3 (.list [.str sDeedW, .int 0, .int n]) := .lst 2 (by show 3 ≤ 100000; decide) fun d hd => by
  rcases List.mem_cons.mp hd with rfl | hd
  · exact .str 1 _
  · rcases List.mem_cons.mp hd with rfl | hd
    · exact .int 1 _
    · rw [List.mem_singleton.mp hd]
      exact .int 1 _
theorem val_of {x : Int} (h : 0 ≤ x ∧ x < 100) : valB x = true := by
  unfold valB
  rw [decide_eq_true h.1, decide_eq_true (by omega : x ≤ 99)]
  rfl
/-- a bad value behind at good ones -/
theorem bad_at {xs : List Int} {n : Nat} {b : Int} (hx : ∀ x ∈ xs, 0 ≤ x ∧ x < 100) (hn : n ≤ xs.length) (h6 : n < 6) (hb : valB b = false) : firstNot valB ((xs.take n ++ [b, -1]).take 6) = some n := by
  have hl : (xs.take n).length = n := by rw [List.length_take]; omega
  refine firstNot_of (x := b) ?_ hb fun j hj y hy => ?_
  · rw [List.getElem?_take_of_lt h6, List.getElem?_append_right (by omega), hl, Nat.sub_self]
    rfl
  · rw [List.getElem?_take_of_lt (by omega), List.getElem?_append_left (by omega), List.getElem?_take_of_lt hj] at hy
    exact val_of (hx y (List.mem_of_getElem? hy))
/-- a bad deed behind at good ones -/
theorem odd_at {ds : List Deed} {n : Nat} {r : Row} (hf : ∀ d ∈ ds, d.fit) (hn : n ≤ ds.length) (hr : okRow r = false) : firstNot okRow (((ds.map Deed.row).take n ++ [r, none]) ++ (ds.map Deed.row).drop n) = some n := by
  have hl : ((ds.map Deed.row).take n).length = n := by rw [List.length_take, List.length_map]; omega
  refine firstNot_of (x := r) ?_ hr fun j hj y hy => ?_
  · rw [List.append_assoc, List.getElem?_append_right (by omega), hl, Nat.sub_self]
    rfl
  · rw [List.append_assoc, List.getElem?_append_left (by omega), List.getElem?_take_of_lt hj] at hy
    obtain ⟨d, hd, rfl⟩ := List.mem_map.mp (List.mem_of_getElem? hy)
    exact deed_ok (hf d hd)
end Sk


namespace Sk
open PySem PySem.Spec PyProof.Rows L2
/-- the law's promise: from any script of ints it comes back with True -/
def spLaw (K : PySem.W.Frag) : Sp := fun vs H Q _ => ∃ (a : Addr) (ns : List Int), vs = [.ref a] ∧ SqL K H a (ns.map V.int) ∧ ∀ H', Q (.bl true) H'
structure TxLaw (mg : Str → Option Value) : Prop where
  len : mg "len" = none
  range : mg "range" = none
  list : mg "list" = none
/-- the eight deeds that cannot be -/
def odds : List Row := [none, some (sPop, [1]), some (sPush, []), some (sPush, [1, 2]), some (sPush, [-1]), some (sPush, [100]), some ("Push", [1]), some ("top", [])]
theorem odds_bad : ∀ r ∈ odds, okRow r = false ∧ Lay r := by
  have h : (odds.all fun r => !okRow r && SeqAt.shaped (.tuple (rowD r))) = true := by decide +kernel
  intro r hr
  have := List.all_eq_true.mp h r hr
  obtain ⟨h1, h2⟩ := Bool.and_eq_true_iff.mp this
  exact ⟨by simpa using h1, h2⟩
theorem none_lay : Lay none := by show SeqAt.shaped (.tuple []) = true; decide +kernel
theorem Rows.grow {K : PySem.W.Frag} {H : Hp} {ts : List Addr} {rs : List Row} {t : Addr} (r : Row) (h : Rows K H ts rs) (n : H t = none) : Rows K (upd H t (.tup (rowV r))) (ts ++ [t]) (rs ++ [r]) :=
  (h.mono fun _ _ z => same_tup (same_upd n) z).append (.cons (SqT.of upd_same) .nil)
theorem Rows.same {K : PySem.W.Frag} {H H' : Hp} {ts : List Addr} {rs : List Row} (h : Rows K H ts rs) (k : Same H H') : Rows K H' ts rs := h.mono fun _ _ z => same_tup k z
theorem Rows.pick {K : PySem.W.Frag} {H : Hp} {ts : List Addr} {rs : List Row} {j : Int} (h : Rows K H ts rs) (h0 : 0 ≤ j) (h1 : j < ts.length) : ∃ t r, atI (ts.map V.ref) j = some (.ref t) ∧ t ∈ ts ∧ r ∈ rs ∧ SqT K H t (rowV r) := by
  obtain ⟨n, rfl⟩ : ∃ n : Nat, j = (n : Int) := ⟨j.toNat, by omega⟩
  have hn : n < ts.length := by omega
  have e : ts[n]? = some ts[n] := List.getElem?_eq_getElem hn
  obtain ⟨r, hr, hs⟩ := h.at_ e
  refine ⟨ts[n], r, atI_nat ?_, List.getElem_mem hn, List.mem_of_getElem? hr, hs⟩
  rw [List.getElem?_map, e]
  rfl
theorem row_inj {d e : Deed} (h : d.row = e.row) : d = e := by
  cases d with
  | push v =>
    cases e with
    | push u =>
      have q : (some (sPush, [v]) : Row) = some (sPush, [u]) := h
      simp at q
      rw [q]
    | pop =>
      have q : (some (sPush, [v]) : Row) = some (sPop, []) := h
      simp at q
  | pop =>
    cases e with
    | push u =>
      have q : (some (sPop, []) : Row) = some (sPush, [u]) := h
      simp at q
    | pop => rfl
theorem rows_inj : ∀ {ds es : List Deed}, ds.map Deed.row = es.map Deed.row → ds = es
  | [], [], _ => rfl
  | [], _ :: _, h => by cases h
  | _ :: _, [], h => by cases h
  | d :: ds, e :: es, h => by
    injection h with h1 h2
    rw [row_inj h1, rows_inj h2]
theorem bads (j : Int) (h0 : 0 ≤ j) (h1 : j < 3) : ∃ b : Int, atI [V.int (-1), V.int 100, V.int (10 ^ (9 : Int).toNat)] j = some (.int b) ∧ valB b = false := by
  rcases (by omega : j = 0 ∨ j = 1 ∨ j = 2) with rfl | rfl | rfl
  · exact ⟨-1, rfl, by decide⟩
  · exact ⟨100, rfl, by decide⟩
  · exact ⟨_, rfl, by decide⟩
abbrev nLaw : List Str := ["_law_script", "_law_d", "_law_values_here", "_law_deeds", "_law_handed", "_law_turn", "_law_found", "_law_at", "_law_bad", "_law_many", "_law_odd", "_law_rows", "_law_k"]
theorem scLaw : FnScope nLaw ["_law_script"] (defScope sLaw) := ⟨rfl, rfl, rfl, by decide +kernel, rfl, by decide +kernel, by decide +kernel⟩
section
variable {P : Program} {w : World} {K : PySem.W.Frag} {mg : Str → Option Value} {base : Heap} {f : Addr} {fd : FuncData} {CP CD : Addr}
theorem ok_law (F : FnP K "law" "law" sLaw f fd) (T : TxLaw mg)
    {a__law_dice : Addr} {d__law_dice : FuncData} (F__law_dice : FnP K "_law_dice" "_law_dice" sDice a__law_dice d__law_dice) (G__law_dice : FnOk P w K mg base CX0 1 a__law_dice d__law_dice ["_law_script"] (spDice K)) (g__law_dice : mg "_law_dice" = some (.ref a__law_dice))
    {a__law_next : Addr} {d__law_next : FuncData} (F__law_next : FnP K "_law_next" "_law_next" sNext a__law_next d__law_next) (G__law_next : FnOk P w K mg base CX0 1 a__law_next d__law_next ["_law_dice_here", "_law_many"] (spNext K)) (g__law_next : mg "_law_next" = some (.ref a__law_next))
    {a__law_like : Addr} {d__law_like : FuncData} (F__law_like : FnP K "_law_like" "_law_like" sLike a__law_like d__law_like) (G__law_like : FnOk P w K mg base CX0 4 a__law_like d__law_like ["_law_found", "_law_due"] (spLike K 3)) (g__law_like : mg "_law_like" = some (.ref a__law_like))
    {a__law_values : Addr} {d__law_values : FuncData} (F__law_values : FnP K "_law_values" "_law_values" sValues a__law_values d__law_values) (G__law_values : FnOk P w K mg base CX0 2 a__law_values d__law_values ["_law_d", "_law_most"] (spValues K)) (g__law_values : mg "_law_values" = some (.ref a__law_values))
    {a__law_deed : Addr} {d__law_deed : FuncData} (F__law_deed : FnP K "_law_deed" "_law_deed" sDeed a__law_deed d__law_deed) (G__law_deed : FnOk P w K mg base CX0 2 a__law_deed d__law_deed ["_law_d"] (spDeed K)) (g__law_deed : mg "_law_deed" = some (.ref a__law_deed))
    {a__law_serial : Addr} {d__law_serial : FuncData} (F__law_serial : FnP K "_law_serial" "_law_serial" sLSer a__law_serial d__law_serial) (G__law_serial : FnOk P w K mg base CX0 1 a__law_serial d__law_serial ["_law_values_here", "_law_deeds"] (spLSer K)) (g__law_serial : mg "_law_serial" = some (.ref a__law_serial))
    {a__law_told : Addr} {d__law_told : FuncData} (F__law_told : FnP K "_law_told" "_law_told" sTold a__law_told d__law_told) (G__law_told : FnOk P w K mg base CX0 5 a__law_told d__law_told ["_law_values_here", "_law_deeds"] (spTold K)) (g__law_told : mg "_law_told" = some (.ref a__law_told))
    {a_serial : Addr} {d_serial : FuncData} (F_serial : FnP K "serial" "serial" sSerial a_serial d_serial) (G_serial : FnOk P w K mg base (L2N.CX P w) 4 a_serial d_serial ["values", "deeds"] (spSerial K CP CD)) (g_serial : mg "serial" = some (.ref a_serial))
    : FnOk P w K mg base CX0 6 f fd ["_law_script"] (spLaw K) := by
  have b__law_dice : Binds K d__law_dice ["_law_script"] [] := F__law_dice.bindsN fun _ _ _ _ _ _ us hl => match us, hl with | [_], _ => rfl
  have b__law_next : Binds K d__law_next ["_law_dice_here", "_law_many"] [] := F__law_next.bindsN fun _ _ _ _ _ _ us hl => match us, hl with | [_, _], _ => rfl
  have b__law_like : Binds K d__law_like ["_law_found", "_law_due"] [] := F__law_like.bindsN fun _ _ _ _ _ _ us hl => match us, hl with | [_, _], _ => rfl
  have b__law_values : Binds K d__law_values ["_law_d", "_law_most"] [] := F__law_values.bindsN fun _ _ _ _ _ _ us hl => match us, hl with | [_, _], _ => rfl
  have b__law_deed : Binds K d__law_deed ["_law_d"] [] := F__law_deed.bindsN fun _ _ _ _ _ _ us hl => match us, hl with | [_], _ => rfl
  have b__law_serial : Binds K d__law_serial ["_law_values_here", "_law_deeds"] [] := F__law_serial.bindsN fun _ _ _ _ _ _ us hl => match us, hl with | [_, _], _ => rfl
  have b__law_told : Binds K d__law_told ["_law_values_here", "_law_deeds"] [] := F__law_told.bindsN fun _ _ _ _ _ _ us hl => match us, hl with | [_, _], _ => rfl
  have b_serial : Binds K d_serial ["values", "deeds"] [] := F_serial.bindsN fun _ _ _ _ _ _ us hl => match us, hl with | [_, _], _ => rfl
  refine fok F scLaw (fun vs H Q E h => ?_) (fun cdv A outer s H vs Q E hr h => ?_)
  · obtain ⟨a, ns, rfl, _⟩ := h
    rfl
  · obtain ⟨a, ns, rfl, hS, k⟩ := h
    have r__law_dice : Room 1 (A.deeper (envOfC "law" (defScope sLaw) s.heap.objs.size f cdv)) := hr.mono (by decide)
    have r__law_next : Room 1 (A.deeper (envOfC "law" (defScope sLaw) s.heap.objs.size f cdv)) := hr.mono (by decide)
    have r__law_like : Room 4 (A.deeper (envOfC "law" (defScope sLaw) s.heap.objs.size f cdv)) := hr.mono (by decide)
    have r__law_values : Room 2 (A.deeper (envOfC "law" (defScope sLaw) s.heap.objs.size f cdv)) := hr.mono (by decide)
    have r__law_deed : Room 2 (A.deeper (envOfC "law" (defScope sLaw) s.heap.objs.size f cdv)) := hr.mono (by decide)
    have r__law_serial : Room 1 (A.deeper (envOfC "law" (defScope sLaw) s.heap.objs.size f cdv)) := hr.mono (by decide)
    have r__law_told : Room 5 (A.deeper (envOfC "law" (defScope sLaw) s.heap.objs.size f cdv)) := hr.mono (by decide)
    have r_serial : Room 4 (A.deeper (envOfC "law" (defScope sLaw) s.heap.objs.size f cdv)) := hr.mono (by decide)
    refine ⟨_, (pss_cons
    (ps_set (i := 1) scLaw.nd rfl (.inr rfl) (pe_call G__law_dice r__law_dice (by rfl) g__law_dice F__law_dice.kp b__law_dice .nil pass0 (pa_cons (pv 0) pa_nil))) (pss_cons
    (ps_set (i := 2) scLaw.nd rfl (.inl rfl) (pe_call G__law_values r__law_values (by rfl) g__law_values F__law_values.kp b__law_values .nil pass0 (pa_cons (pv 1) (pa_cons pe_int pa_nil)))) (pss_cons
    (ps_setLc (i := 3) (own := [("_law_k", 12)]) (g := gName 12) (tt := tYes) rfl scLaw.nd rfl rfl (sw_true rfl rfl rfl (by decide +kernel)) (pi_range1 (by rfl) T.range (pa_cons (pe_call G__law_next r__law_next (by rfl) g__law_next F__law_next.kp b__law_next .nil pass0 (pa_cons (pv 1) (pa_cons pe_int pa_nil))) pa_nil)) (blkOk_by (N := nLaw) (sc := (defScope sLaw)) (by decide +kernel)) (fun _ _ _ _ _ => pg_name (i := 12) scLaw.nd rfl (Or.inl rfl)) (fun _ _ _ _ _ => pts_nil) (fun _ _ _ _ _ => (pe_call G__law_deed r__law_deed (by rfl) g__law_deed F__law_deed.kp b__law_deed .nil pass0 (pa_cons (pv 1) pa_nil)))) (pss_cons
    (ps_set (i := 4) scLaw.nd rfl (.inl rfl) (pe_lst (pa_cons (pe_callTy call_list_of (by rfl) T.list (by decide +kernel) (pa_cons (pv 2) pa_nil)) (pa_cons (pe_callTy call_list_of (by rfl) T.list (by decide +kernel) (pa_cons (pv 3) pa_nil)) pa_nil)))) (pss_cons
    (ps_for PassesOwn.never rfl (pi_range1 (by rfl) T.range (pa_cons pe_int pa_nil)) (pg_name (i := 5) scLaw.nd rfl (.inl rfl)) (pss_cons
    (ps_set (i := 6) scLaw.nd rfl (.inl rfl) (pe_call G_serial r_serial (by rfl) g_serial F_serial.kp b_serial .nil passN (pa_cons (pe_ix ix_list (pv 4) pe_int (fun _ _ => rfl)) (pa_cons (pe_ix ix_list (pv 4) pe_int (fun _ _ => rfl)) pa_nil)))) (pss_cons
    (ps_if (PW.pt (pw_or (pt_not (pt_val (pe_call G__law_like r__law_like (by rfl) g__law_like F__law_like.kp b__law_like .nil pass0 (pa_cons (pv 6) (pa_cons (pe_call G__law_serial r__law_serial (by rfl) g__law_serial F__law_serial.kp b__law_serial .nil pass0 (pa_cons (pv 2) (pa_cons (pv 3) pa_nil))) pa_nil))))) (pw_or1 (pt_cmpR (op_neD hr.units) (pv 4) (pe_lst (pa_cons (pv 2) (pa_cons (pv 3) pa_nil))) (nomark _))))) (pss_one (ps_ret pe_bl)) pss_nil) (pss_cons
    (ps_expr (pe_bm PySem.F.plainAttrs_list PySem.F.slot_list_append PySem.F.type_list_append mt_append (pe_ix ix_tup (pv 6) pe_int (fun _ _ => rfl)) (pa_cons pe_int pa_nil))) (pss_one
    (ps_expr (pe_bm PySem.F.plainAttrs_list PySem.F.slot_list_append PySem.F.type_list_append mt_append (pe_ix ix_tup (pv 6) pe_int (fun _ _ => rfl)) (pa_cons pe_int pa_nil)))))))) (pss_cons
    (ps_set (i := 7) scLaw.nd rfl (.inl rfl) (pe_call G__law_next r__law_next (by rfl) g__law_next F__law_next.kp b__law_next .nil pass0 (pa_cons (pv 1) (pa_cons (pe_op op_add (pe_callB call_len_seq (by rfl) T.len PySem.boot_len (pa_cons (pv 2) pa_nil)) pe_int) pa_nil)))) (pss_cons
    (ps_set (i := 8) scLaw.nd rfl (.inl rfl) (pe_slice sl_list (pe_op op_cat (pe_slice sl_list (pv 2) po_none (po_some (pv 7))) (pe_lst (pa_cons (pe_ix ix_list (pe_lst (pa_cons (pe_un un_neg pe_int) (pa_cons pe_int (pa_cons (pe_op op_pow pe_int pe_int) pa_nil)))) (pe_call G__law_next r__law_next (by rfl) g__law_next F__law_next.kp b__law_next .nil pass0 (pa_cons (pv 1) (pa_cons pe_int pa_nil))) (fun _ _ => rfl)) (pa_cons (pe_un un_neg pe_int) pa_nil)))) po_none (po_some pe_int))) (Evl.pss_cut
    (ps_if (PW.pt (pw_and (pt_cmpR op_lt (pv 7) pe_int (nomark _)) (pw_and1 (pt_not (pt_val (pe_call G__law_like r__law_like (by rfl) g__law_like F__law_like.kp b__law_like .nil pass0 (pa_cons (pe_call G__law_told r__law_told (by rfl) g__law_told F__law_told.kp b__law_told .nil pass0 (pa_cons (pv 8) (pa_cons (pe_lst (pa_cons (pe_tup pa_nil) pa_nil)) pa_nil))) (pa_cons (pe_lst (pa_cons pe_str (pa_cons (pv 7) pa_nil))) pa_nil)))))))) (pss_one (ps_ret pe_bl)) pss_nil) (pss_cons
    (ps_for PassesOwn.never rfl (pi_list (pe_lst (pa_cons (pe_op op_rep (pe_lst (pa_cons pe_int pa_nil)) pe_int) (pa_cons (pe_op op_rep (pe_lst (pa_cons pe_int pa_nil)) pe_int) (pa_cons (pe_op op_cat (pe_lst (pa_cons (pe_un un_neg pe_int) pa_nil)) (pe_op op_rep (pe_lst (pa_cons pe_int pa_nil)) pe_int)) pa_nil))))) (pg_name (i := 9) scLaw.nd rfl (.inl rfl)) (pss_one (ps_if (pt_not (pt_val (pe_call G__law_like r__law_like (by rfl) g__law_like F__law_like.kp b__law_like .nil pass0 (pa_cons (pe_call G__law_told r__law_told (by rfl) g__law_told F__law_told.kp b__law_told .nil pass0 (pa_cons (pv 9) (pa_cons (pe_lst (pa_cons (pe_tup pa_nil) pa_nil)) pa_nil))) (pa_cons (pe_lst (pa_cons pe_str (pa_cons pe_int pa_nil))) pa_nil))))) (pss_one (ps_ret pe_bl)) pss_nil))) (pss_cons
    (ps_set (i := 7) scLaw.nd rfl (.inl rfl) (pe_call G__law_next r__law_next (by rfl) g__law_next F__law_next.kp b__law_next .nil pass0 (pa_cons (pv 1) (pa_cons (pe_op op_add (pe_callB call_len_seq (by rfl) T.len PySem.boot_len (pa_cons (pv 3) pa_nil)) pe_int) pa_nil)))) (pss_cons
    (ps_set (i := 10) scLaw.nd rfl (.inl rfl) (pe_lst (pa_cons (pe_tup pa_nil) (pa_cons (pe_tup (pa_cons pe_str (pa_cons pe_int pa_nil))) (pa_cons (pe_tup (pa_cons pe_str pa_nil)) (pa_cons (pe_tup (pa_cons pe_str (pa_cons pe_int (pa_cons pe_int pa_nil)))) (pa_cons (pe_tup (pa_cons pe_str (pa_cons (pe_un un_neg pe_int) pa_nil))) (pa_cons (pe_tup (pa_cons pe_str (pa_cons pe_int pa_nil))) (pa_cons (pe_tup (pa_cons pe_str (pa_cons pe_int pa_nil))) (pa_cons (pe_tup (pa_cons pe_str pa_nil)) pa_nil)))))))))) (pss_cons
    (ps_set (i := 11) scLaw.nd rfl (.inl rfl) (pe_op op_cat (pe_op op_cat (pe_slice sl_list (pv 3) po_none (po_some (pv 7))) (pe_lst (pa_cons (pe_ix ix_list (pv 10) (pe_call G__law_next r__law_next (by rfl) g__law_next F__law_next.kp b__law_next .nil pass0 (pa_cons (pv 1) (pa_cons pe_int pa_nil))) (fun _ _ => rfl)) (pa_cons (pe_tup pa_nil) pa_nil)))) (pe_slice sl_list (pv 3) (po_some (pv 7)) po_none))) (pss_one
    (ps_ret (pe_call G__law_like r__law_like (by rfl) g__law_like F__law_like.kp b__law_like .nil pass0 (pa_cons (pe_call G__law_told r__law_told (by rfl) g__law_told F__law_told.kp b__law_told .nil pass0 (pa_cons (pv 2) (pa_cons (pv 11) pa_nil))) (pa_cons (pe_lst (pa_cons pe_str (pa_cons pe_int (pa_cons (pv 7) pa_nil)))) pa_nil))))))))))))))))), ?_⟩
    -- the dice, the values, the deeds
    refine ⟨_, rfl, a, ns, rfl, hS, fun p H1 np s1 d1 => ?_⟩
    refine ⟨_, rfl, p, a, ns, 6, rfl, d1, by decide, by decide, fun v xs H2 w2 nv e2 lx fx => ?_⟩
    have vp : v ≠ p := fun q => by
      obtain ⟨l, z⟩ := d1.some
      rw [q, z] at nv
      cases nv
    refine ⟨_, rfl, p, a, ns, 31, rfl, w2.d, by decide, by decide, fun n H3 n0 n1 w3 => ⟨n, rfl, by omega, by omega, fun e nE3 => ?_⟩⟩
    have nE2 : H2 e = none := w3.free nE3
    have ep : e ≠ p := w3.ne nE3
    refine lc_range (lo := 0) (n := n.toNat) (fun i H' => Drew K p a ns H2 H' ∧ ∃ (ts : List Addr) (ds : List Deed), H' e = some (.lst (ts.map V.ref)) ∧ ts.length = i ∧ Rows K H' ts (ds.map Deed.row) ∧ ∀ d ∈ ds, d.fit)
      ⟨w3.put w2.d nE2 ep, [], [], upd_same, rfl, .nil, fun d hd => by cases hd⟩ ?turn ?rest
    case turn =>
      rintro i H' hi ⟨wI, ts, ds, eI, lI, rI, fI⟩
      refine ⟨rfl, tyes ⟨_, rfl, p, a, ns, rfl, wI.d, fun t d H4 w4 nt et fd' => ?_⟩⟩
      obtain ⟨lp, elp⟩ := wI.d.some
      have e4 : H4 e = some (.lst (ts.map V.ref)) := w4.b e _ ep eI
      refine ⟨_, e4, ?_, (wI.trans w4).put w2.d nE2 ep, ts ++ [t], ds ++ [d], ?_, ?_, ?_, ?_⟩
      · rw [List.length_map, sizeLine_eq]
        omega
      · rw [upd_same, List.map_append]
        rfl
      · rw [List.length_append, lI]
        rfl
      · rw [List.map_append]
        exact (rI.mono fun t' ys z => sqt_upd e4 (sqt_but w4.b elp z)).append (.cons (sqt_upd e4 (SqT.of et)) .nil)
      · intro x hx
        rcases List.mem_append.mp hx with z | z
        · exact fI x z
        · rw [List.mem_singleton.mp z]
          exact fd'
    case rest =>
      rintro H5 ⟨w5, ts, ds, e5, l5, r5, f5⟩
      have st5 : Stand K H5 p a v e ns xs ts ds := ⟨w5.d, w5.b _ _ vp e2, e5, r5, vp, ep⟩
      have lts : ts.length ≤ 30 := by omega
      have lds : ds.length = ts.length := by
        have := r5.len
        rw [List.length_map] at this
        exact this.symm
      -- copies of both
      refine ⟨_, rfl, v, _, rfl, .inl (SqL.of st5.va), fun L1 n1' => ⟨_, rfl, e, _, rfl, .inl (SqL.of ((same_upd n1') _ _ st5.de)), fun L2 n2' => ⟨by show 2 ≤ sizeLine; decide, fun hh nh => ?_⟩⟩⟩
      have s6 : Same H5 (upd (upd (upd H5 L1 (.lst (xs.map V.int))) L2 (.lst (ts.map V.ref))) hh (.lst [.ref L1, .ref L2])) := ((same_upd n1').trans (same_upd n2')).trans (same_upd nh)
      have q1 := (same_upd (o := .lst [V.ref L1, .ref L2]) nh) _ _ ((same_upd (o := .lst (ts.map V.ref)) n2') _ _ (upd_same (H := H5) (a := L1) (o := .lst (xs.map V.int))))
      have q2 := (same_upd (o := .lst [V.ref L1, .ref L2]) nh) _ _ (upd_same (H := upd H5 L1 (.lst (xs.map V.int))) (a := L2) (o := .lst (ts.map V.ref)))
      have q3 := upd_same (H := upd (upd H5 L1 (.lst (xs.map V.int))) L2 (.lst (ts.map V.ref))) (a := hh) (o := .lst [V.ref L1, .ref L2])
      generalize hH6 : upd (upd (upd H5 L1 (.lst (xs.map V.int))) L2 (.lst (ts.map V.ref))) hh (.lst [.ref L1, .ref L2]) = H6 at *
      have st6 : Stand K H6 p a v e ns xs ts ds := st5.same s6
      have okV : firstNot valB xs = none := firstNot_all fun x hx => val_of (fx x hx)
      have okR : firstNot okRow (ds.map Deed.row) = none := firstNot_all fun r hr => by
        obtain ⟨d, hd, rfl⟩ := List.mem_map.mp hr
        exact deed_ok (f5 d hd)
      have lx6 : xs.length ≤ 6 := by omega
      refine ⟨2, rfl, by decide, by decide, for_range (lo := 0) (n := 2) (fun i σ H' => Same H6 H' ∧ ∃ u y : Option V, σ = [some (.ref a), some (.ref p), some (.ref v), some (.ref e), some (.ref hh), u, y, none, none, none, none, none, none]) ⟨.refl _, none, none, rfl⟩ ?t2 ?r2⟩
      case t2 =>
        rintro i σ H' hi ⟨s7, u, y, rfl⟩
        have st7 := st6.same s7
        refine ⟨_, rfl, hh, _, _, _, rfl, rfl, SqL.of (s7 _ _ q3), rfl, _, rfl, hh, _, _, _, rfl, rfl, SqL.of (s7 _ _ q3), rfl, ?_⟩
        refine ⟨L1, L2, xs, ts, ds.map Deed.row, rfl, SqL.of (s7 _ _ q1), by omega, SqL.of (s7 _ _ q2), st7.ro, by omega, lay_deeds ds, fun h => absurd h (by omega), fun _ j hj => ?_, fun _ _ j hj => ?_, fun _ _ ds' eds fit t A B H8 s8 nA nB nAB et eA eB => ?_⟩
        · rw [okV] at hj
          cases hj
        · rw [okR] at hj
          cases hj
        · have e0 : ds' = ds := (rows_inj eds).symm
          subst e0
          have s68 := s7.trans s8
          have st8 := st6.same s68
          refine ⟨_, rfl, _, rfl, _, rfl, v, e, xs, ts, ds', rfl, SqL.of st8.va, by omega, SqL.of st8.de, st8.ro, by omega, fun t2 A2 B2 H9 s9 et2 eA2 eB2 => ?_⟩
          have s69 := s68.trans s9
          have st9 := st6.same s69
          refine ⟨_, _, dActs xs ds', rfl, dp_acts (s9 _ _ et) (s9 _ _ eA) (s9 _ _ eB), dp_acts et2 eA2 eB2, fits_acts (by omega) (by omega), _, rfl, iteF ?_⟩
          refine ⟨_, rfl, _, rfl, _, rfl, (by show 2 ≤ sizeLine; decide), fun L3 n3 => ?_⟩
          have s10 := s69.trans (same_upd (o := .lst [V.ref v, .ref e]) n3)
          have st10 := st6.same s10
          refine ⟨dHanded xs ds', dHanded xs ds', dp_handed (s10 _ _ q3) (s10 _ _ q1) (s10 _ _ q2) st10.ro, dp_handed upd_same st10.va st10.de st10.ro, shaped_handed _ _, shaped_handed _ _, _, rfl, ?_⟩
          rw [eqv_handed]
          refine iteF ?_
          have sAB := s9.trans (same_upd (o := .lst [V.ref v, .ref e]) n3)
          have et' := sAB _ _ et
          have eA' := sAB _ _ eA
          have eB' := sAB _ _ eB
          have l1 := acts_len1 xs ds'
          have l2 := acts_len2 xs ds'
          refine ⟨_, rfl, t, _, _, _, rfl, rfl, SqT.of et', rfl, .inl ⟨rfl, _, SqL.of eA'⟩, A, _, _, rfl, rfl, eA', ?_, ?_⟩
          · rw [l1, sizeLine_eq]
            omega
          · have nAt : t ≠ A := ne_of et' eA' (by intro z; cases z)
            have eB'' : (upd (upd H9 L3 (.lst [V.ref v, .ref e])) A (.lst ((acts xs ds').1 ++ [.int 1]))) B = some (.lst ((acts xs ds').2.map V.int)) := by
              rw [upd_ne (Ne.symm nAB)]
              exact eB'
            refine ⟨_, rfl, t, _, _, V.ref B, rfl, rfl, SqT.of (by rw [upd_ne nAt]; exact et'), rfl, .inl ⟨rfl, _, SqL.of eB''⟩, B, _, _, rfl, rfl, eB'', ?_, ?_⟩
            · rw [List.length_map, sizeLine_eq]
              omega
            · refine ⟨fun b o q => ?_, _, _, rfl⟩
              have hA6 : H6 A = none := s7.free nA
              have hB6 : H6 B = none := s7.free nB
              rw [upd_ne (ne_of_none q hB6), upd_ne (ne_of_none q hA6)]
              exact s10 b o q
      case r2 =>
        rintro σ H7 ⟨s7, u, y, rfl⟩
        have st7 := st6.same s7
        have ln := List.length_map (as := xs) V.int
        refine ⟨_, rfl, _, rfl, v, _, rfl, .inl (SqL.of st7.va), _, _, rfl, rfl, p, a, ns, _, rfl, st7.di, (by omega), (by omega), fun at1 H8 a0 a1 w8 => ?_⟩
        obtain ⟨m, rfl⟩ : ∃ m : Nat, at1 = (m : Int) := ⟨at1.toNat, by omega⟩
        have hm : m ≤ xs.length := by omega
        have st8 := st7.drew w8
        -- the values with a bad one
        refine ⟨_, rfl, _, rfl, _, rfl, v, _, rfl, SqL.of st8.va, fun S1 nS1 => ?_⟩
        refine ⟨_, rfl, _, _, rfl, rfl, ⟨by decide, by decide, by decide⟩, (by show 3 ≤ sizeLine; decide), fun M1 nM1 => ?_⟩
        have sS1 := same_upd (o := .lst (cutV (xs.map V.int) none (some (m : Int)))) nS1
        have sM1 := same_upd (o := .lst [V.int (-1), V.int 100, V.int (10 ^ (9 : Int).toNat)]) nM1
        have st8b := (st8.same sS1).same sM1
        refine ⟨_, rfl, p, a, ns, 3, rfl, st8b.di, by decide, by decide, fun j H9 j0 j1 w9 => ?_⟩
        obtain ⟨b, hb, vb⟩ := bads j j0 j1
        have M1p : M1 ≠ p := fun q => by
          rw [q, sS1 _ _ st8.di.some.choose_spec] at nM1
          cases nM1
        have S1p : S1 ≠ p := fun q => by
          rw [q, st8.di.some.choose_spec] at nS1
          cases nS1
        have eM1 := w9.b M1 _ M1p (upd_same (H := upd H8 S1 (.lst (cutV (xs.map V.int) none (some (m : Int))))) (a := M1) (o := .lst [V.int (-1), V.int 100, V.int (10 ^ (9 : Int).toNat)]))
        have eS1 := w9.b S1 _ S1p (sM1 _ _ (upd_same (H := H8) (a := S1) (o := .lst (cutV (xs.map V.int) none (some (m : Int))))))
        have st9 := st8b.drew w9
        refine ⟨M1, _, j, _, rfl, rfl, SqL.of eM1, hb, _, rfl, (by show 2 ≤ sizeLine; decide), fun M2 nM2 => ?_⟩
        have sM2 := same_upd (o := .lst [V.int b, V.int (-1)]) nM2
        refine ⟨S1, M2, _, _, rfl, rfl, sM2 _ _ eS1, upd_same, ?_, fun C1 nC1 => ?_⟩
        · rw [cut_to, List.length_take, List.length_map, sizeLine_eq]
          show min m xs.length + 2 ≤ _
          omega
        refine ⟨_, rfl, C1, _, rfl, SqL.of upd_same, fun Bd nBd => ?_⟩
        have eBd0 : cutV (cutV (xs.map V.int) none (some (m : Int)) ++ [V.int b, V.int (-1)]) none (some 6) = ((xs.take m ++ [b, -1]).take 6).map V.int := by
          show cutV _ none (some ((6 : Nat) : Int)) = _
          rw [cut_to, cut_to, List.map_take, List.map_append, List.map_take]
          rfl
        rw [eBd0]
        have s10 : Same H9 (upd (upd (upd H9 M2 (.lst [V.int b, V.int (-1)])) C1 (.lst (cutV (xs.map V.int) none (some (m : Int)) ++ [V.int b, V.int (-1)]))) Bd (.lst (((xs.take m ++ [b, -1]).take 6).map V.int))) := (sM2.trans (same_upd nC1)).trans (same_upd nBd)
        have eBd := upd_same (H := upd (upd H9 M2 (.lst [V.int b, V.int (-1)])) C1 (.lst (cutV (xs.map V.int) none (some (m : Int)) ++ [V.int b, V.int (-1)]))) (a := Bd) (o := .lst (((xs.take m ++ [b, -1]).take 6).map V.int))
        generalize hH10 : upd (upd (upd H9 M2 (.lst [V.int b, V.int (-1)])) C1 (.lst (cutV (xs.map V.int) none (some (m : Int)) ++ [V.int b, V.int (-1)]))) Bd (.lst (((xs.take m ++ [b, -1]).take 6).map V.int)) = H10 at *
        have st10 := st9.same s10
        refine ⟨fun σ' H' => σ' = [some (.ref a), some (.ref p), some (.ref v), some (.ref e), some (.ref hh), u, y, some (.int (m : Int)), some (.ref Bd), none, none, none, none] ∧ Same H10 H', ?bad, ?more⟩
        case bad =>
          refine ⟨_, rfl, _, _, rfl, rfl, _, rfl, ite2 (fun h6 => ?_) (fun _ => iteF ⟨rfl, .refl _⟩)⟩
          have hm6 : m < 6 := by
            have := of_decide_eq_true h6
            omega
          refine ⟨_, rfl, Nat.zero_le _, fun T0 nT0 => ⟨by show 1 ≤ sizeLine; decide, fun L4 nL4 => ?_⟩⟩
          have sT := (same_upd (o := .tup ([] : List V)) nT0).trans (same_upd (o := .lst [V.ref T0]) nL4)
          have eT0 := (same_upd (o := .lst [V.ref T0]) nL4) _ _ (upd_same (H := H10) (a := T0) (o := .tup ([] : List V)))
          refine ⟨Bd, L4, (xs.take m ++ [b, -1]).take 6, [T0], [none], [.str sPile, .int (m : Int)], rfl, SqL.of (sT _ _ eBd), ?_, SqL.of upd_same, .cons (SqT.of eT0) .nil, (by show 1 ≤ 1000; decide), fun r hr => ?_, .inr (.inl ⟨?_, m, bad_at fx hm hm6 vb, rfl⟩), fun l H11 s11 nl el => ?_⟩
          · rw [List.length_take]
            omega
          · rw [List.mem_singleton.mp hr]
            exact none_lay
          · rw [List.length_take]
            omega
          · refine ⟨_, rfl, (by show 2 ≤ sizeLine; decide), fun L5 n5 => ?_⟩
            exact ⟨_, _, .list [.str sPile, .int (m : Int)], rfl, dp_pile ((same_upd n5) _ _ el), dp_pile upd_same, fits_pile _, _, rfl, iteF ⟨rfl, (sT.trans s11).trans (same_upd n5)⟩⟩
        case more =>
          rintro σ' H11 ⟨rfl, s11⟩
          have st11 := st10.same s11
          -- too many values
          refine ⟨by show 1 ≤ sizeLine; decide, fun A1 nA1 => ⟨A1, 7, _, rfl, rfl, upd_same, by decide, by decide, by decide, fun B1 nB1 => ?_⟩⟩
          refine ⟨by show 1 ≤ sizeLine; decide, fun A2 nA2 => ⟨A2, 8, _, rfl, rfl, upd_same, by decide, by decide, by decide, fun B2 nB2 => ?_⟩⟩
          refine ⟨_, rfl, by show 1 ≤ sizeLine; decide, fun A3 nA3 => ⟨by show 1 ≤ sizeLine; decide, fun A4 nA4 => ⟨A4, 6, _, rfl, rfl, upd_same, by decide, by decide, by decide, fun B4 nB4 => ?_⟩⟩⟩
          have sA1 := same_upd (o := .lst [V.int 0]) nA1
          have sB1 := same_upd (o := .lst (List.replicate (7 : Int).toNat [V.int 0]).flatten) nB1
          have sA2 := same_upd (o := .lst [V.int 100]) nA2
          have sB2 := same_upd (o := .lst (List.replicate (8 : Int).toNat [V.int 100]).flatten) nB2
          have sA3 := same_upd (o := .lst [V.int (-1)]) nA3
          have sA4 := same_upd (o := .lst [V.int 5]) nA4
          have sB4 := same_upd (o := .lst (List.replicate (6 : Int).toNat [V.int 5]).flatten) nB4
          refine ⟨A3, B4, _, _, rfl, rfl, sB4 _ _ (sA4 _ _ upd_same), upd_same, by decide, fun B5 nB5 => ⟨by show 3 ≤ sizeLine; decide, fun LL nLL => ?_⟩⟩
          have sB5 := same_upd (o := .lst ([V.int (-1)] ++ (List.replicate (6 : Int).toNat [V.int 5]).flatten)) nB5
          have sLL := same_upd (o := .lst [V.ref B1, .ref B2, .ref B5]) nLL
          have sEnd := ((((((((sA1.trans sB1).trans sA2).trans sB2).trans sA3).trans sA4).trans sB4).trans sB5).trans sLL)
          have e1 := sLL _ _ (sB5 _ _ (sB4 _ _ (sA4 _ _ (sA3 _ _ (sB2 _ _ (sA2 _ _ (upd_same (H := upd H11 A1 (.lst [V.int 0])) (a := B1) (o := .lst (List.replicate (7 : Int).toNat [V.int 0]).flatten))))))))
          have e2' := sLL _ _ (sB5 _ _ (sB4 _ _ (sA4 _ _ (sA3 _ _ (upd_same (H := upd (upd (upd H11 A1 (.lst [V.int 0])) B1 (.lst (List.replicate (7 : Int).toNat [V.int 0]).flatten)) A2 (.lst [V.int 100])) (a := B2) (o := .lst (List.replicate (8 : Int).toNat [V.int 100]).flatten))))))
          have e3 := sLL B5 _ upd_same
          refine ⟨LL, rfl, ⟨_, SqL.of upd_same⟩, ?_⟩
          generalize hH12 : upd (upd (upd (upd (upd (upd (upd (upd (upd H11 A1 (.lst [V.int 0])) B1 (.lst (List.replicate (7 : Int).toNat [V.int 0]).flatten)) A2 (.lst [V.int 100])) B2 (.lst (List.replicate (8 : Int).toNat [V.int 100]).flatten)) A3 (.lst [V.int (-1)])) A4 (.lst [V.int 5])) B4
            (.lst (List.replicate (6 : Int).toNat [V.int 5]).flatten)) B5 (.lst ([V.int (-1)] ++ (List.replicate (6 : Int).toNat [V.int 5]).flatten))) LL (.lst [V.ref B1, .ref B2, .ref B5]) = H12 at *
          have st12 := (st11.same (sEnd : Same H11 H12))
          have e1b : H12 B1 = some (.lst ((List.replicate 7 (0 : Int)).map V.int)) := e1
          have e2b : H12 B2 = some (.lst ((List.replicate 8 (100 : Int)).map V.int)) := e2'
          have e3b : H12 B5 = some (.lst ((-1 :: List.replicate 6 (5 : Int)).map V.int)) := e3
          have eLL : H12 LL = some (.lst [V.ref B1, .ref B2, .ref B5]) := by rw [← hH12]; exact upd_same
          refine for_list (xs := [V.ref B1, .ref B2, .ref B5]) (fun _ σ H' => (∃ z : Option V, σ = [some (.ref a), some (.ref p), some (.ref v), some (.ref e), some (.ref hh), u, y, some (.int (m : Int)), some (.ref Bd), z, none, none, none]) ∧ Same H12 H') ⟨⟨none, rfl⟩, .refl _⟩ (fun _ σ H' _ q => SqL.of (q.2 _ _ eLL)) ?t3 ?r3
          case t3 =>
            rintro i x σ H' hx ⟨⟨z, rfl⟩, s12⟩
            obtain ⟨q, ys, rfl, hq, l7, l1000⟩ : ∃ (q : Addr) (ys : List Int), x = V.ref q ∧ H12 q = some (.lst (ys.map V.int)) ∧ 6 < ys.length ∧ ys.length ≤ 1000 := by
              rcases List.mem_cons.mp (List.mem_of_getElem? hx) with h | h
              · exact ⟨B1, _, h, e1b, by decide, by decide⟩
              · rcases List.mem_cons.mp h with h | h
                · exact ⟨B2, _, h, e2b, by decide, by decide⟩
                · exact ⟨B5, _, List.mem_singleton.mp h, e3b, by decide, by decide⟩
            refine ⟨_, rfl, Nat.zero_le _, fun T0 nT0 => ⟨by show 1 ≤ sizeLine; decide, fun L4 nL4 => ?_⟩⟩
            have sT := (same_upd (o := .tup ([] : List V)) nT0).trans (same_upd (o := .lst [V.ref T0]) nL4)
            have eT0 := (same_upd (o := .lst [V.ref T0]) nL4) _ _ (upd_same (H := H') (a := T0) (o := .tup ([] : List V)))
            refine ⟨q, L4, ys, [T0], [none], [.str sPile, .int 6], rfl, SqL.of (sT _ _ (s12 _ _ hq)), l1000, SqL.of upd_same, .cons (SqT.of eT0) .nil, (by show 1 ≤ 1000; decide), fun r hr => ?_, .inl ⟨l7, rfl⟩, fun l H13 s13 nl el => ?_⟩
            · rw [List.mem_singleton.mp hr]
              exact none_lay
            · refine ⟨(by show 2 ≤ sizeLine; decide), fun L5 n5 => ?_⟩
              exact ⟨_, _, .list [.str sPile, .int 6], rfl, dp_pile ((same_upd n5) _ _ el), dp_pile upd_same, fits_pile _, _, rfl, iteF ⟨⟨_, rfl⟩, ((s12.trans sT).trans s13).trans (same_upd n5)⟩⟩
          case r3 =>
            rintro σ H13 ⟨⟨z, rfl⟩, s13⟩
            have st13 := st12.same s13
            have lt' := List.length_map (as := ts) V.ref
            refine ⟨_, rfl, _, rfl, e, _, rfl, .inl (SqL.of st13.de), _, _, rfl, rfl, p, a, ns, _, rfl, st13.di, (by omega), (by omega), fun at2 H14 a2 a3 w14 => ?_⟩
            obtain ⟨n2, rfl⟩ : ∃ n2 : Nat, at2 = (n2 : Int) := ⟨at2.toNat, by omega⟩
            have hn2 : n2 ≤ ts.length := by omega
            have st14 := st13.drew w14
            -- the odd deeds
            refine ⟨Nat.zero_le _, fun t0 m0 => ⟨by show 2 ≤ sizeLine; decide, fun t1 m1 => ⟨by show 1 ≤ sizeLine; decide, fun t2 m2 => ⟨by show 3 ≤ sizeLine; decide, fun t3 m3 => ⟨_, rfl, by show 2 ≤ sizeLine; decide, fun t4 m4 => ⟨by show 2 ≤ sizeLine; decide, fun t5 m5 => ⟨by show 2 ≤ sizeLine; decide, fun t6 m6 => ⟨by show 1 ≤ sizeLine; decide, fun t7 m7 => ⟨by show 8 ≤ sizeLine; decide, fun O nO => ?_⟩⟩⟩⟩⟩⟩⟩⟩⟩
            have R0 : Rows K H14 [] [] := .nil
            have R := (((((((R0.grow none m0).grow (some (sPop, [1])) m1).grow (some (sPush, [])) m2).grow (some (sPush, [1, 2])) m3).grow (some (sPush, [-1])) m4).grow (some (sPush, [100])) m5).grow (some ("Push", [1])) m6).grow (some ("top", [])) m7
            have sT8 := (((((((same_upd (o := .tup (rowV none)) m0).trans (same_upd (o := .tup (rowV (some (sPop, [1])))) m1)).trans (same_upd (o := .tup (rowV (some (sPush, [])))) m2)).trans (same_upd (o := .tup (rowV (some (sPush, [1, 2])))) m3)).trans (same_upd (o := .tup (rowV (some (sPush, [-1])))) m4)).trans (same_upd (o := .tup (rowV (some (sPush, [100])))) m5)).trans (same_upd (o := .tup (rowV (some ("Push", [1])))) m6)).trans (same_upd (o := .tup (rowV (some ("top", [])))) m7)
            have Op : O ≠ p := (ne_of_none (sT8 _ _ st14.di.some.choose_spec) nO).symm
            have s15 := sT8.trans (same_upd (o := .lst ([t0, t1, t2, t3, t4, t5, t6, t7].map V.ref)) nO)
            have R15 : Rows K _ [t0, t1, t2, t3, t4, t5, t6, t7] odds := R.same (same_upd (o := .lst ([t0, t1, t2, t3, t4, t5, t6, t7].map V.ref)) nO)
            have s15' : Same H14 (upd (upd (upd (upd (upd (upd (upd (upd (upd H14 t0 (.tup [])) t1 (.tup [V.str sPop, V.int 1])) t2 (.tup [V.str sPush])) t3 (.tup [V.str sPush, V.int 1, V.int 2])) t4 (.tup [V.str sPush, V.int (-1)])) t5 (.tup [V.str sPush, V.int 100])) t6 (.tup [V.str "Push", V.int 1])) t7 (.tup [V.str "top"])) O (.lst [V.ref t0, V.ref t1, V.ref t2, V.ref t3, V.ref t4, V.ref t5, V.ref t6, V.ref t7])) := s15
            have R15' : Rows K (upd (upd (upd (upd (upd (upd (upd (upd (upd H14 t0 (.tup [])) t1 (.tup [V.str sPop, V.int 1])) t2 (.tup [V.str sPush])) t3 (.tup [V.str sPush, V.int 1, V.int 2])) t4 (.tup [V.str sPush, V.int (-1)])) t5 (.tup [V.str sPush, V.int 100])) t6 (.tup [V.str "Push", V.int 1])) t7 (.tup [V.str "top"])) O (.lst [V.ref t0, V.ref t1, V.ref t2, V.ref t3, V.ref t4, V.ref t5, V.ref t6, V.ref t7])) [t0, t1, t2, t3, t4, t5, t6, t7] odds := R15
            have eO' : (upd (upd (upd (upd (upd (upd (upd (upd (upd H14 t0 (.tup [])) t1 (.tup [V.str sPop, V.int 1])) t2 (.tup [V.str sPush])) t3 (.tup [V.str sPush, V.int 1, V.int 2])) t4 (.tup [V.str sPush, V.int (-1)])) t5 (.tup [V.str sPush, V.int 100])) t6 (.tup [V.str "Push", V.int 1])) t7 (.tup [V.str "top"])) O (.lst [V.ref t0, V.ref t1, V.ref t2, V.ref t3, V.ref t4, V.ref t5, V.ref t6, V.ref t7])) O = some (.lst ([t0, t1, t2, t3, t4, t5, t6, t7].map V.ref)) := upd_same
            clear R15 s15 R sT8
            generalize hH15 : upd (upd (upd (upd (upd (upd (upd (upd (upd H14 t0 (.tup [])) t1 (.tup [V.str sPop, V.int 1])) t2 (.tup [V.str sPush])) t3 (.tup [V.str sPush, V.int 1, V.int 2])) t4 (.tup [V.str sPush, V.int (-1)])) t5 (.tup [V.str sPush, V.int 100])) t6 (.tup [V.str "Push", V.int 1])) t7 (.tup [V.str "top"])) O (.lst [V.ref t0, V.ref t1, V.ref t2, V.ref t3, V.ref t4, V.ref t5, V.ref t6, V.ref t7]) = H15 at s15' R15' eO' ⊢
            have st15 := st14.same s15'
            -- the rows
            refine ⟨_, rfl, _, rfl, _, rfl, e, _, rfl, SqL.of st15.de, fun S2 nS2 => ?_⟩
            have sS2 := same_upd (o := .lst (cutV (ts.map V.ref) none (some (n2 : Int)))) nS2
            have st15b := st15.same sS2
            refine ⟨_, rfl, _, rfl, p, a, ns, 8, rfl, st15b.di, by decide, by decide, fun j H16 j0 j1 w16 => ?_⟩
            obtain ⟨q, r, hq, _, hr, hqr⟩ := (R15'.same sS2).pick j0 (by show j < 8; exact j1)
            obtain ⟨lp, elp⟩ := st15b.di.some
            have S2p : S2 ≠ p := (ne_of_none st15.di.some.choose_spec nS2).symm
            have eO16 := w16.b O _ Op (sS2 _ _ eO')
            have eS2 := w16.b S2 _ S2p (upd_same (H := H15) (a := S2) (o := .lst (cutV (ts.map V.ref) none (some (n2 : Int)))))
            have hqr16 := sqt_but w16.b elp hqr
            have st16 := st15b.drew w16
            refine ⟨O, _, j, _, rfl, rfl, SqL.of eO16, hq, Nat.zero_le _, fun Z nZ => ⟨(by show 2 ≤ sizeLine; decide), fun M3 nM3 => ?_⟩⟩
            have sZ := (same_upd (o := .tup ([] : List V)) nZ).trans (same_upd (o := .lst [V.ref q, V.ref Z]) nM3)
            have eZ := (same_upd (o := .lst [V.ref q, V.ref Z]) nM3) _ _ (upd_same (H := H16) (a := Z) (o := .tup ([] : List V)))
            refine ⟨S2, M3, _, _, rfl, rfl, sZ _ _ eS2, upd_same, ?_, fun C2 nC2 => ?_⟩
            · rw [cut_to, List.length_take, lt', sizeLine_eq]
              show min n2 ts.length + 2 ≤ _
              omega
            have sC2 := sZ.trans (same_upd (o := .lst (cutV (ts.map V.ref) none (some (n2 : Int)) ++ [V.ref q, V.ref Z])) nC2)
            have st17 := st16.same sC2
            have eC2 := upd_same (H := upd (upd H16 Z (.tup ([] : List V))) M3 (.lst [V.ref q, V.ref Z])) (a := C2) (o := .lst (cutV (ts.map V.ref) none (some (n2 : Int)) ++ [V.ref q, V.ref Z]))
            refine ⟨_, rfl, _, rfl, _, rfl, e, _, rfl, SqL.of st17.de, fun S3 nS3 => ?_⟩
            refine ⟨C2, S3, _, _, rfl, rfl, (same_upd nS3) _ _ eC2, upd_same, ?_, fun RW nRW => ?_⟩
            · rw [cut_to, cut_from, List.length_append, List.length_take, List.length_drop, lt', sizeLine_eq]
              show min n2 ts.length + 2 + _ ≤ _
              omega
            have sRW := (same_upd (o := .lst (cutV (ts.map V.ref) (some (n2 : Int)) none)) nS3).trans (same_upd (o := .lst ((cutV (ts.map V.ref) none (some (n2 : Int)) ++ [V.ref q, V.ref Z]) ++ cutV (ts.map V.ref) (some (n2 : Int)) none)) nRW)
            have st18 := st17.same sRW
            have eRW := upd_same (H := upd (upd (upd (upd H16 Z (.tup ([] : List V))) M3 (.lst [V.ref q, V.ref Z])) C2 (.lst (cutV (ts.map V.ref) none (some (n2 : Int)) ++ [V.ref q, V.ref Z]))) S3 (.lst (cutV (ts.map V.ref) (some (n2 : Int)) none))) (a := RW) (o := .lst ((cutV (ts.map V.ref) none (some (n2 : Int)) ++ [V.ref q, V.ref Z]) ++ cutV (ts.map V.ref) (some (n2 : Int)) none))
            have eCut : (cutV (ts.map V.ref) none (some (n2 : Int)) ++ [V.ref q, V.ref Z]) ++ cutV (ts.map V.ref) (some (n2 : Int)) none = ((ts.take n2 ++ [q, Z]) ++ ts.drop n2).map V.ref := by
              rw [cut_to, cut_from, List.map_append, List.map_append, List.map_take, List.map_drop]
              rfl
            have rQ : Rows K _ [q, Z] [r, none] := .cons (same_tup (sC2.trans sRW) hqr16) (.cons (SqT.of (sRW _ _ ((same_upd nC2) _ _ eZ))) .nil)
            refine ⟨_, rfl, _, rfl, v, RW, xs, (ts.take n2 ++ [q, Z]) ++ ts.drop n2, ((ds.map Deed.row).take n2 ++ [r, none]) ++ (ds.map Deed.row).drop n2, [.str sDeedW, .int 0, .int (n2 : Int)], rfl, SqL.of st18.va, by omega, ?_, ((st18.ro.take n2).append rQ).append (st18.ro.drop n2), ?_, ?_, .inr (.inr ⟨lx6, okV, n2, odd_at f5 (by omega) (odds_bad r hr).1, rfl⟩), fun l H17 s17 nl el => ?_⟩
            · rw [← eCut]
              exact SqL.of eRW
            · rw [List.length_append, List.length_append, List.length_take, List.length_drop]
              show min n2 ts.length + 2 + _ ≤ _
              omega
            · intro x hx
              rcases List.mem_append.mp hx with hx | hx
              · rcases List.mem_append.mp hx with hx | hx
                · exact lay_deeds ds x (List.mem_of_mem_take hx)
                · rcases List.mem_cons.mp hx with rfl | hx
                  · exact (odds_bad _ hr).2
                  · rw [List.mem_singleton.mp hx]
                    exact none_lay
              · exact lay_deeds ds x (List.mem_of_mem_drop hx)
            · refine ⟨_, rfl, (by show 3 ≤ sizeLine; decide), fun L5 n5 => ?_⟩
              exact ⟨_, _, .list [.str sDeedW, .int 0, .int (n2 : Int)], rfl, dp_deed ((same_upd n5) _ _ el), dp_deed upd_same, fits_deed _, k _⟩
end
end Sk


namespace Sk
open PySem PySem.Spec PyProof.Rows L2
/-! ### looking at the errors' classes -/
def mroB (C : Addr) : List Value → Bool
  | .ref D :: r => decide (D = C) && PySem.HandSPX.refsVE r
  | _ => false
theorem mroB_ok {C : Addr} : ∀ {l : List Value}, mroB C l = true → ∃ r, l = .ref C :: r ∧ PySem.HandSPX.refsVE r = true
  | .ref D :: r, h => by
    obtain ⟨h1, h2⟩ := He.ba h
    rw [of_decide_eq_true h1]
    exact ⟨r, rfl, h2⟩
def slB : List (Option Value) → Bool
  | [_, _, _, _, some (.builtin n), _] => decide (n = "ValueError.__new__")
  | _ => false
theorem slB_ok : ∀ {l : List (Option Value)}, slB l = true → ∃ k0 k1 k2 k3 k5, l = [k0, k1, k2, k3, some (.builtin "ValueError.__new__"), k5]
  | [k0, k1, k2, k3, some (.builtin n), k5], h => by
    rw [of_decide_eq_true h]
    exact ⟨k0, k1, k2, k3, k5, rfl⟩
def clsB (K : PySem.W.Frag) (C : Addr) : Bool := match K.lookup C with
  | some ⟨.type t, _, .cls cd, sl⟩ => decide (t = "type") && (cd.hasDict && ((!cd.hasDel) && (mroB C cd.mro && slB sl.toList)))
  | _ => false
theorem clsB_ok {K : PySem.W.Frag} {C : Addr} (h : clsB K C = true) : ∃ nm q N bs bm sn sub ab col dd k0 k1 k2 k3 k5, K.lookup C = some (excClassObj nm q C N bs bm true sn sub ab col dd k0 k1 k2 k3 k5 "ValueError.__new__") ∧ PySem.HandSPX.refsVE bm = true := by
  unfold clsB at h
  split at h
  · rename_i t dd cd sl e
    obtain ⟨h1, h⟩ := He.ba h
    obtain ⟨h2, h⟩ := He.ba h
    obtain ⟨h3, h⟩ := He.ba h
    obtain ⟨h4, h5⟩ := He.ba h
    have et := of_decide_eq_true h1
    obtain ⟨nm, bs, mro, ns, qn, hd, sn, sub, ab, col, dl⟩ := cd
    obtain ⟨sl⟩ := sl
    dsimp only at h2 h3 h4 h5
    subst h2
    have e3 : dl = false := by
      cases dl with
      | false => rfl
      | true => cases h3
    obtain ⟨r, e4, h7⟩ := mroB_ok h4
    obtain ⟨k0, k1, k2, k3, k5, e5⟩ := slB_ok h5
    subst e3 et e4 e5
    exact ⟨nm, qn, ns, bs, r, sn, sub, ab, col, dd, k0, k1, k2, k3, k5, e, h7⟩
  · cases h
def gotB (K : PySem.W.Frag) (v : Value) (n : Str) (b : String) : Bool := decide (PySem.W.findIn K v n = some (some (.builtin b)))
def lackB (K : PySem.W.Frag) (C : Addr) (n : Str) : Bool := He.eqO (PySem.W.findIn K (.ref C) n) (some none)
def oexB (K : PySem.W.Frag) (C : Addr) : Bool := clsB K C && (gotB K (.ref C) "__setattr__" "object.__setattr__" && (decide (PySem.W.subIn K (.ref C) (.type "BaseException") = some true) && (decide (PySem.W.typeIn K (.ref C) = some (.type "type")) && PySem.W.keepIn K (.ref C))))
theorem oexB_ok {K : PySem.W.Frag} {C : Addr} (h : oexB K C = true) : OexC K C := by
  obtain ⟨h1, h⟩ := He.ba h
  obtain ⟨h2, h⟩ := He.ba h
  obtain ⟨h3, h⟩ := He.ba h
  obtain ⟨h4, h5⟩ := He.ba h
  exact ⟨clsB_ok h1, of_decide_eq_true h2, of_decide_eq_true h3, of_decide_eq_true h4, h5⟩
def baseB (K : PySem.W.Frag) (B : Addr) : Bool := PySem.W.readsIn K B (.type "type") && (decide (PySem.W.specialIn K (.ref B) "__getattribute__" = some (some (.builtin "type.__getattribute__"))) && (match PySem.W.findCls K (.ref B) (.type "type") "__init__" with
  | some (.val (.builtin n)) => decide (n = "ValueError.__init__")
  | _ => false))
theorem baseB_ok {K : PySem.W.Frag} {B : Addr} (h : baseB K B = true) : BaseI K B (.type "type") := by
  obtain ⟨h1, h⟩ := He.ba h
  obtain ⟨h2, h3⟩ := He.ba h
  refine ⟨h1, of_decide_eq_true h2, ?_⟩
  split at h3
  · rename_i n e
    rw [e, of_decide_eq_true h3]
  · cases h3
def excB (K : PySem.W.Frag) (D : Addr) : Bool := gotB K (.ref D) "__getattribute__" "BaseException.__getattribute__" && (lackB K D "__getattr__" && (decide (PySem.W.subIn K (.ref D) (.type "BaseException") = some true) && (PySem.W.hasDictIn K D && (gotB K (.ref D) "__class__" "object.__class__" &&
  (decide (PySem.W.specialIn K (.builtin "object.__class__") "__get__" = some (some (.builtin "getset_descriptor.__get__"))) && (decide (PySem.W.takesIn K (.builtin "object.__class__") = some true) && decide (PySem.W.mroIn K D (.type "object") = some true)))))))
theorem excB_ok {K : PySem.W.Frag} {D : Addr} (h : excB K D = true) : ExcC K D := by
  obtain ⟨h1, h⟩ := He.ba h
  obtain ⟨h2, h⟩ := He.ba h
  obtain ⟨h3, h⟩ := He.ba h
  obtain ⟨h4, h⟩ := He.ba h
  obtain ⟨h5, h⟩ := He.ba h
  obtain ⟨h6, h⟩ := He.ba h
  obtain ⟨h7, h8⟩ := He.ba h
  exact ⟨of_decide_eq_true h1, He.eqO_ok h2, of_decide_eq_true h3, h4, of_decide_eq_true h5, of_decide_eq_true h6, of_decide_eq_true h7, of_decide_eq_true h8⟩
def kindB (K : PySem.W.Frag) (D CP CD CR CH : Addr) (k0 k1 k2 k3 : Bool) : Bool := excB K D && (decide (PySem.W.kitOne K (.ref D) (.ref CP) = some k0) && (decide (PySem.W.kitOne K (.ref D) (.ref CD) = some k1) && (decide (PySem.W.kitOne K (.ref D) (.ref CR) = some k2) && (decide (PySem.W.kitOne K (.ref D) (.ref CH) = some k3) && decide (PySem.W.kitOne K (.ref D) (.type "ValueError") = some true)))))
theorem kindB_ok {K : PySem.W.Frag} {D CP CD CR CH : Addr} {k0 k1 k2 k3 : Bool} (h : kindB K D CP CD CR CH k0 k1 k2 k3 = true) : KindOf K D CP CD CR CH k0 k1 k2 k3 := by
  obtain ⟨h1, h⟩ := He.ba h
  obtain ⟨h2, h⟩ := He.ba h
  obtain ⟨h3, h⟩ := He.ba h
  obtain ⟨h4, h⟩ := He.ba h
  obtain ⟨h5, h6⟩ := He.ba h
  exact ⟨excB_ok h1, of_decide_eq_true h2, of_decide_eq_true h3, of_decide_eq_true h4, of_decide_eq_true h5, of_decide_eq_true h6⟩
/-- an own __init__ -/
def initB (K : PySem.W.Frag) (x : Str) : Bool := decide (PySem.W.findIn K (.ref (He.ga K x)) "__init__" = some (some (.ref (He.fAd K (x, some "__init__"))))) && decide (PySem.W.typeIn K (.ref (He.fAd K (x, some "__init__"))) = some (.type "function"))
theorem initB_ok {K : PySem.W.Frag} {x : Str} (h : initB K x = true) : PySem.W.findIn K (.ref (He.ga K x)) "__init__" = some (some (.ref (He.fAd K (x, some "__init__")))) ∧ PySem.W.typeIn K (.ref (He.fAd K (x, some "__init__"))) = some (.type "function") := by
  obtain ⟨h1, h2⟩ := He.ba h
  exact ⟨of_decide_eq_true h1, of_decide_eq_true h2⟩
/-! ### the run of the top -/
abbrev RowK : PySem.W.OpenRow := PySem.W.OpenLaw.row PySem.Challenge.rw_stalestack_k01_deeds_one_by_one
def dOf (x : Str) (st : Stmt) : He.DefD := ⟨(x, none), x, x, defArgs st, defBody st, defScope st, [], []⟩
def dIn (C q : Str) (st : Stmt) : He.DefD := ⟨(C, some "__init__"), "__init__", q, defArgs st, defBody st, defScope st, [], []⟩
def fnK : List He.DefD := [dIn "BadPile" "BadPile.__init__" sInitP, dIn "BadDeed" "BadDeed.__init__" sInitD, dOf "is_value" sIsVal, dOf "is_deed" sIsDeed, dOf "check_values" sChkV, dOf "first_bad_deed" sFirst, dOf "do_deed" sDo, dOf "serial" sSerial,
  dOf "_law_dice" sDice, dOf "_law_next" sNext, dOf "_law_like" sLike, dOf "_law_values" sValues, dOf "_law_deed" sDeed, dOf "_law_serial" sLSer, dOf "_law_is" sIs, dOf "_law_told" sTold, dOf "law" sLaw]
def faK : List He.Fa := [.glo "PileError", .glo "BadPile", .glo "BadDeed", .glo "BadRule", .glo "NoHand", .glo "POP", .glo "is_value", .glo "is_deed", .glo "check_values", .glo "first_bad_deed", .glo "do_deed", .glo "serial",
  .glo "_law_dice", .glo "_law_next", .glo "_law_like", .glo "_law_values", .glo "_law_deed", .glo "_law_serial", .glo "_law_is", .glo "_law_told", .glo "law", .int "MOST_VALUES" 6, .int "HIGHEST_VALUE" 99,
  .free "len", .free "int", .free "isinstance", .free "bool", .free "str", .free "dict", .free "tuple", .free "list", .free "range", .free "enumerate", .free "ValueError", .exm "BadPile" "PileError" true, .exm "BadDeed" "PileError" true]
def exK (K : PySem.W.Frag) : List Bool := [He.tupB K "POP" [.str "pop"], baseB K (He.ga K "PileError"), oexB K (He.ga K "BadPile"), oexB K (He.ga K "BadDeed"), initB K "BadPile", initB K "BadDeed", lackB K (He.ga K "BadPile") "at", lackB K (He.ga K "BadDeed") "hand", lackB K (He.ga K "BadDeed") "number",
  xfB K (He.ga K "BadPile"), xfB K (He.ga K "BadDeed"), kindB K (He.ga K "BadPile") (He.ga K "BadPile") (He.ga K "BadDeed") (He.ga K "BadRule") (He.ga K "NoHand") true false false false,
  kindB K (He.ga K "BadDeed") (He.ga K "BadPile") (He.ga K "BadDeed") (He.ga K "BadRule") (He.ga K "NoHand") false true false false]
abbrev AlR : Type := He.AlD × Bool
/-- the names' reach and the statics -/
def asR (g : Addr → Option Obj) (n : Nat) : List Addr := PySem.cStatics :: He.asD g n
def obsR (n : Nat) (fa : List He.Fa) (fn : List He.DefD) (ex : PySem.W.Frag → List Bool) (g : Addr → Option Obj) : AlR := (He.obsD fa fn (He.frG g (asR g n)), (ex (He.frG g (asR g n))).all id)
structure SaysR (fa : List He.Fa) (fn : List He.DefD) (ex : PySem.W.Frag → List Bool) (K : PySem.W.Frag) : Prop where
  d : He.SaysD fa fn K
  more : (ex K).all id = true
theorem SaysR.ex {fa : List He.Fa} {fn : List He.DefD} {ex : PySem.W.Frag → List Bool} {K : PySem.W.Frag} (c : SaysR fa fn ex K) {b : Bool} (h : b ∈ ex K) : b = true := List.all_eq_true.mp c.more b h
def hookR (n : Nat) (fa : List He.Fa) (fn : List He.DefD) (ex : PySem.W.Frag → List Bool) : PySem.W.Hook where
  α := AlR
  obs := fun s => obsR n fa fn ex s.heap.get?
  val := fun _ => (He.valD fn, true)
  says := fun _ h => ∃ K : PySem.W.Frag, K.In h ∧ SaysR fa fn ex K
  of := fun _ _ e => ⟨_, He.frG_in, congrArg (fun z : AlR => z.1) e, congrArg (fun z : AlR => z.2) e⟩
  keeps := fun _ _ _ ⟨K, hK, c⟩ k => ⟨K, PySem.W.Frag.In.keeps hK k, c⟩
theorem obsR_eq {n : Nat} {fa : List He.Fa} {fn : List He.DefD} {ex : PySem.W.Frag → List Bool} {g : Addr → Option Obj} {s : Shared} (h : ∀ a, g a = s.heap.get? a) : obsR n fa fn ex g = (hookR n fa fn ex).obs s := by
  rw [show g = s.heap.get? from funext h] <;> rfl
abbrev hkK : PySem.W.Hook := hookR 4 faK fnK exK
def obK (s : PySem.W.SharedT) : AlR := obsR 4 faK fnK exK (HandSHeadRun.getT s)
theorem obK_eq (s : PySem.W.SharedT) : obK s = hkK.obs s.abs := obsR_eq (HandSHeadRun.getT_eq s)
def looseK : List Str := ["__name__", "PileError", "BadPile", "BadDeed", "BadRule", "NoHand", "MOST_VALUES", "HIGHEST_VALUE", "POP", "is_value", "is_deed", "check_values", "first_bad_deed", "do_deed", "serial",
  "_law_dice", "_law_next", "_law_like", "_law_values", "_law_deed", "_law_programs", "_law_serial", "_law_is", "_law_told"]
theorem runK (w : World) : HandSHeadRun.RunEq RowK (PySem.W.view RowK.prog [26]) hkK obK 2000 looseK w := by
  intro os
  kernel_rfl
end Sk


namespace Sk
open PySem PySem.Spec PyProof.Rows L2
section
variable {P : Program} {w : World} {K : PySem.W.Frag} {h : Heap} {mg : Str → Option Value} {f : Addr}
theorem gl (X : K.In h) (G : h.Ns mainGlobals mg) (c : SaysR faK fnK exK K) (x : Str) (hx : He.Fa.glo x ∈ faK) : mg x = some (.ref (He.ga K x)) := He.glo_ok X G (c.d.facts hx)
theorem fr (X : K.In h) (G : h.Ns mainGlobals mg) (c : SaysR faK fnK exK K) (x : Str) (hx : He.Fa.free x ∈ faK) : mg x = none := He.free_ok X G (c.d.facts hx)
theorem df (c : SaysR faK fnK exK K) (x : Str) (st : Stmt) (hx : dOf x st ∈ fnK) : ∃ fd, FnP K x x st (He.ga K x) fd := c.d.defs hx
theorem df2 (c : SaysR faK fnK exK K) (C q : Str) (st : Stmt) (hx : dIn C q st ∈ fnK) : ∃ fd, FnP K "__init__" q st (He.fAd K (C, some "__init__")) fd := c.d.defs hx
theorem facts (X : K.In h) (G : h.Ns mainGlobals mg) (hfa : mg ("law" : Str) = some (.ref f)) (c : SaysR faK fnK exK K) :
    ∃ fd : FuncData, (∀ (s : Shared) (v : Value), BindsTo s fd ⟨[v], []⟩ [("_law_script", v)]) ∧ ∀ base : Heap, K.In base → base.Ns mainGlobals mg → FnOk P w K mg base CX0 6 f fd ["_law_script"] (spLaw K) := by
  have gl := gl X G c
  have fr := fr X G c
  obtain ⟨dP, FP⟩ := df2 c "BadPile" "BadPile.__init__" sInitP (by simp [fnK])
  obtain ⟨dD, FD⟩ := df2 c "BadDeed" "BadDeed.__init__" sInitD (by simp [fnK])
  obtain ⟨dV, FV⟩ := df c "is_value" sIsVal (by simp [fnK])
  obtain ⟨dI, FI⟩ := df c "is_deed" sIsDeed (by simp [fnK])
  obtain ⟨dC, FC⟩ := df c "check_values" sChkV (by simp [fnK])
  obtain ⟨dF, FF⟩ := df c "first_bad_deed" sFirst (by simp [fnK])
  obtain ⟨dO, FO⟩ := df c "do_deed" sDo (by simp [fnK])
  obtain ⟨dS, FS⟩ := df c "serial" sSerial (by simp [fnK])
  obtain ⟨d1, F1⟩ := df c "_law_dice" sDice (by simp [fnK])
  obtain ⟨d2, F2⟩ := df c "_law_next" sNext (by simp [fnK])
  obtain ⟨d3, F3⟩ := df c "_law_like" sLike (by simp [fnK])
  obtain ⟨d4, F4⟩ := df c "_law_values" sValues (by simp [fnK])
  obtain ⟨d5, F5⟩ := df c "_law_deed" sDeed (by simp [fnK])
  obtain ⟨d6, F6⟩ := df c "_law_serial" sLSer (by simp [fnK])
  obtain ⟨d7, F7⟩ := df c "_law_is" sIs (by simp [fnK])
  obtain ⟨d8, F8⟩ := df c "_law_told" sTold (by simp [fnK])
  obtain ⟨fd, F⟩ := df c "law" sLaw (by simp [fnK])
  have e := hfa.symm.trans (gl "law" (by simp [faK]))
  cases e
  have mH : ∃ t, mg "HIGHEST_VALUE" = some (.int 99 t) := He.int_ok X G (c.d.facts (f := .int "HIGHEST_VALUE" 99) (by simp [faK]))
  have mM : ∃ t, mg "MOST_VALUES" = some (.int 6 t) := He.int_ok X G (c.d.facts (f := .int "MOST_VALUES" 6) (by simp [faK]))
  have TP : TxPop K mg (He.ga K "POP") := ⟨gl "POP" (by simp [faK]), fun H => He.tupB_ok (c.ex (b := He.tupB K "POP" [.str "pop"]) (by simp [exK])) H⟩
  have iP := initB_ok (c.ex (b := initB K "BadPile") (by simp [exK]))
  have iD := initB_ok (c.ex (b := initB K "BadDeed") (by simp [exK]))
  have nP : PySem.W.findIn K (.ref (He.ga K "BadPile")) "at" = some none := He.eqO_ok (c.ex (b := lackB K (He.ga K "BadPile") "at") (by simp [exK]))
  have nH : PySem.W.findIn K (.ref (He.ga K "BadDeed")) "hand" = some none := He.eqO_ok (c.ex (b := lackB K (He.ga K "BadDeed") "hand") (by simp [exK]))
  have nN : PySem.W.findIn K (.ref (He.ga K "BadDeed")) "number" = some none := He.eqO_ok (c.ex (b := lackB K (He.ga K "BadDeed") "number") (by simp [exK]))
  have TE : TxErr K mg (He.ga K "PileError") (He.ga K "BadPile") (He.ga K "BadDeed") (He.fAd K ("BadPile", some "__init__")) (He.fAd K ("BadDeed", some "__init__")) (.type "type") :=
    ⟨gl "PileError" (by simp [faK]), baseB_ok (c.ex (b := baseB K (He.ga K "PileError")) (by simp [exK])), gl "BadPile" (by simp [faK]), oexB_ok (c.ex (b := oexB K (He.ga K "BadPile")) (by simp [exK])), iP.1, iP.2, nP,
      gl "BadDeed" (by simp [faK]), oexB_ok (c.ex (b := oexB K (He.ga K "BadDeed")) (by simp [exK])), iD.1, iD.2, nH, nN⟩
  have TI : TxIs K mg (He.ga K "BadPile") (He.ga K "BadDeed") (He.ga K "BadRule") (He.ga K "NoHand") := ⟨gl "BadPile" (by simp [faK]), gl "BadDeed" (by simp [faK]), gl "BadRule" (by simp [faK]), gl "NoHand" (by simp [faK]), fr "isinstance" (by simp [faK]), fr "ValueError" (by simp [faK])⟩
  have TT : TxTold K mg (He.ga K "PileError") (He.ga K "BadPile") (He.ga K "BadDeed") (He.ga K "BadRule") (He.ga K "NoHand") (He.ga K "serial") (He.ga K "_law_is") :=
    ⟨gl "PileError" (by simp [faK]), gl "serial" (by simp [faK]), gl "_law_is" (by simp [faK]), He.exm_ok (c.d.facts (f := .exm "BadPile" "PileError" true) (by simp [faK])), He.exm_ok (c.d.facts (f := .exm "BadDeed" "PileError" true) (by simp [faK])),
      xfB_ok (c.ex (b := xfB K (He.ga K "BadPile")) (by simp [exK])), xfB_ok (c.ex (b := xfB K (He.ga K "BadDeed")) (by simp [exK])), nP, nH, nN,
      kindB_ok (c.ex (b := kindB K (He.ga K "BadPile") (He.ga K "BadPile") (He.ga K "BadDeed") (He.ga K "BadRule") (He.ga K "NoHand") true false false false) (by simp [exK])),
      kindB_ok (c.ex (b := kindB K (He.ga K "BadDeed") (He.ga K "BadPile") (He.ga K "BadDeed") (He.ga K "BadRule") (He.ga K "NoHand") false true false false) (by simp [exK]))⟩
  have mL := fr "len" (by simp [faK])
  have TL : TxLike mg := ⟨fr "isinstance" (by simp [faK]), fr "bool" (by simp [faK]), fr "str" (by simp [faK]), fr "int" (by simp [faK]), fr "dict" (by simp [faK]), fr "tuple" (by simp [faK]), fr "list" (by simp [faK]), mL, fr "range" (by simp [faK])⟩
  have b := FunD.bindsA (ps := ["_law_script"]) F fun _ _ _ _ _ _ us hl => match us, hl with | [_], _ => rfl
  refine ⟨fd, fun s v => b s [v] rfl, fun base _ _ => ?_⟩
  have gV := gl "is_value" (by simp [faK])
  have gN := gl "_law_next" (by simp [faK])
  have GC : FnOk P w K mg base (L2N.CX P w) 3 _ dC ["values"] (spChkV K (He.ga K "BadPile")) := ok_chkV FC FV gV mH mM TE FP mL (fr "enumerate" (by simp [faK]))
  have GF : FnOk P w K mg base CX0 3 _ dF ["deeds"] (spFirst K) := ok_first FF FI (gl "is_deed" (by simp [faK])) FV gV mH TP mL (fr "enumerate" (by simp [faK]))
  have GO : FnOk P w K mg base CX0 1 _ dO ["pile", "deed"] (spDo K) := ok_do FO TP mL
  have TS : TxSer K mg (He.ga K "check_values") (He.ga K "first_bad_deed") (He.ga K "do_deed") := ⟨gl "check_values" (by simp [faK]), gl "first_bad_deed" (by simp [faK]), gl "do_deed" (by simp [faK]), fr "list" (by simp [faK])⟩
  have GS : FnOk P w K mg base (L2N.CX P w) 4 _ dS ["values", "deeds"] (spSerial K (He.ga K "BadPile") (He.ga K "BadDeed")) := ok_serial FS TS FC GC FF GF FO GO TE FD
  have G7 := ok_is (P := P) (w := w) (base := base) F7 TI
  exact ok_law F ⟨mL, fr "range" (by simp [faK]), fr "list" (by simp [faK])⟩ F1 (ok_dice F1 mL (fr "int" (by simp [faK]))) (gl "_law_dice" (by simp [faK])) F2 (ok_next F2 mL) gN F3 (ok_like F3 TL (gl "_law_like" (by simp [faK])) 3) (gl "_law_like" (by simp [faK]))
    F4 (ok_values F4 F2 gN mL (fr "range" (by simp [faK]))) (gl "_law_values" (by simp [faK])) F5 (ok_deed_ F5 F2 gN mL) (gl "_law_deed" (by simp [faK])) F6 (ok_lser F6 (fr "list" (by simp [faK]))) (gl "_law_serial" (by simp [faK]))
    F8 (ok_told F8 TT FS GS F7 G7) (gl "_law_told" (by simp [faK])) FS GS (gl "serial" (by simp [faK]))
end
end Sk
open PySem PySem.W PySem.Calls PyProof.Rows
theorem PySem.Challenge.cw_stalestack_k01_deeds_one_by_one_holds : PySem.Challenge.rw_stalestack_k01_deeds_one_by_one.Holds := by
  w_on; o_law
  refine HandSHeadRun.head_any (r := Sk.RowK) (q := view Sk.RowK.prog [26]) (H := Sk.hkK) (ob := Sk.obK) (M := 2000) (loose := Sk.looseK) (d := HandSHeadRun.topDef Sk.RowK.prog 26) (kwd := []) Sk.obK_eq
    (by kernel_rfl) (fun s => by kernel_rfl) Sk.runK (by kernel_rfl) (by kernel_rfl) (by kernel_rfl) (by rfl) (by first | assumption | decide +kernel) (by decide +kernel) ⟨rfl, rfl, rfl, rfl, rfl, by decide +kernel⟩ ?hw ?hc
  case hw => w_witness2
  case hc =>
    refine L2.walk_ofE (l := PySem.Challenge.rw_stalestack_k01_deeds_one_by_one) (n := 63) (k := 6) (x := "_law_script") (CX := L2.CX0) rfl (by decide) (by kernel_rfl) ⟨rfl, by decide, by decide⟩ ?F (fun _ _ _ _ z => z)
    intro w mg fa h Y G hmg0
    obtain ⟨K, KX, c⟩ := Y
    have hmg : mg ("law" : PySem.Str) = some (.ref fa) := by
      have e : (HandSHeadRun.topDef Sk.RowK.prog 26).name = ("law" : PySem.Str) := by kernel_rfl
      rw [← e]
      exact hmg0
    obtain ⟨fd, hb, hF⟩ := Sk.facts (P := (PySem.Challenge.rw_stalestack_k01_deeds_one_by_one).prog) (w := w) KX G hmg c
    exact ⟨K, fd, Sk.spLaw K, KX, hb, fun H a ns hl _ hS => ⟨a, ns, rfl, hS, fun _ => rfl⟩, hF⟩


