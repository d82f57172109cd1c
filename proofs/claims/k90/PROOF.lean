import PyProof.Rows.All
import Wide.All
import OpenK.AllK
import Wide.FinOn
import HandS.ForMost
import HandS.Flow
import HandS.IsInst
import HandS.Defaults
import HandS.FStr
import HandS.ExcInit
import HandS.ExcField
import HandS.ExcIs
import HandS.HotCalls
import HandS.Walk
import HandS.ClsMeth
import HandS.Style
import HandS.Codes
import HandS.TupMul
import HandS.TupAny
import HandS.Zip
import HandS.Evl
import KE.GoesMore
import HandS.Conv
import PyProof.P3Eq
import HandS.Deep
import HandS.Head0
import HandS.Head1
import HandS.Head2
import HandS.HeadEnd
import HandS.HeadHook1
import HandS.HeadHook2
import HandS.HeadHook3
import HandS.HeadHook4
import PySem.Challenge.RW_stalestack_k90_known_edges
set_option Elab.async false
set_option linter.all false
set_option maxRecDepth 100000
set_option maxHeartbeats 0

/-! Words that do not hang on the program. -/
namespace Sk
open PySem PySem.Spec PyProof.Rows L2

abbrev FnP (K : PySem.W.Frag) (x q : Str) (st : Stmt) (f : Addr) (fd : FuncData) : Prop := FunD K x q (defArgs st) (defBody st) (defScope st) [] [] f fd

section
variable {P : Program} {w : World} {K : PySem.W.Frag} {mg : Str → Option Value} {base : Heap}
/-- a def that lets no exception out -/
theorem fok {x q : Str} {st : Stmt} {f : Addr} {fd : FuncData} {N ps : List Str} {k : Nat} {sp : Sp} (F : FnP K x q st f fd) (S : FnScope N ps (defScope st)) (len : ∀ vs H Q E, sp vs H Q E → vs.length = ps.length)
    (body : ∀ (cdv : Value) (A : Around) (outer : List Env) (s : Shared) (H : Hp) (vs : List V) (Q : VK) (E : XK), Room k (A.deeper (envOfC q (defScope st) s.heap.objs.size f cdv)) → sp vs H Q E →
      ∃ t, PSs (cxOf CX0 P w K mg base N q (defScope st) f cdv A outer s H E).nox (defBody st) t ∧ t { nx := fun _ H' => Q .non H', rt := Q } (start N vs) H) : FnOk P w K mg base CX0 (k + 1) f fd ps sp := by
  refine F.ok S len fun cdv A outer s H vs Q E hr h => ?_
  obtain ⟨t, h1, h2⟩ := body cdv A outer s H vs Q E hr h
  exact ⟨t, h1.nox, h2⟩
end

/-! ### heaps -/
/-- all but what stands at p is kept -/
def But (p : Addr) (H H' : Hp) : Prop := ∀ b o, b ≠ p → H b = some o → H' b = some o
theorem But.refl {p : Addr} {H : Hp} : But p H H := fun _ _ _ h => h
theorem But.trans {p : Addr} {H H1 H2 : Hp} (a : But p H H1) (b : But p H1 H2) : But p H H2 := fun c o n h => b c o n (a c o n h)
theorem But.upd {p : Addr} {H : Hp} {o : HO} : But p H (upd H p o) := fun b u n h => by rw [upd_ne n]; exact h
theorem But.of {p : Addr} {H H' : Hp} (s : Same H H') : But p H H' := fun b o _ h => s b o h
theorem ne_sh {H : Hp} {a b : Addr} {o u : HO} (h : H a = some o) (h' : H b = some u) (d : o ≠ u) : a ≠ b := ne_of h h' d
theorem But.free {p l : Addr} {H H' : Hp} {o : HO} (s : But p H H') (hp : H' p = some o) (h : H' l = none) : H l = none := by
  cases q : H l with
  | none => rfl
  | some u =>
    have n : l ≠ p := fun e => by
      rw [e, hp] at h
      cases h
    rw [s l u n q] at h
    cases h
theorem But.seq {K : PySem.W.Frag} {p a : Addr} {xs : List V} {H H' : Hp} (s : But p H H') (n : a ≠ p) (h : SqL K H a xs) : SqL K H' a xs := by
  rcases h with (h | ⟨o, h⟩) | h
  · exact .inl (.inl (s _ _ n h))
  · exact .inl (.inr ⟨o, s _ _ n h⟩)
  · exact .inr h
theorem But.tup {K : PySem.W.Frag} {p a : Addr} {xs : List V} {H H' : Hp} (s : But p H H') (n : a ≠ p) (h : SqT K H a xs) : SqT K H' a xs := by
  rcases h with (h | ⟨o, h⟩) | h
  · exact .inl (.inl (s _ _ n h))
  · exact .inl (.inr ⟨o, s _ _ n h⟩)
  · exact .inr h
theorem same_tup {K : PySem.W.Frag} {a : Addr} {xs : List V} {H H' : Hp} (s : Same H H') (h : SqT K H a xs) : SqT K H' a xs := by
  rcases h with (h | ⟨o, h⟩) | h
  · exact .inl (.inl (s _ _ h))
  · exact .inl (.inr ⟨o, s _ _ h⟩)
  · exact .inr h
theorem same_upd {H : Hp} {p : Addr} {o : HO} (h : H p = none) : Same H (upd H p o) := fun b u e => by
  rw [upd_ne (ne_of_none e h)]
  exact e

/-! ### the dice -/
/-- the script, out of the dice's reach -/
def ScAt (K : PySem.W.Frag) (H : Hp) (p a : Addr) (xs : List V) : Prop := (a ≠ p ∧ SqL K H a xs) ∨ ∀ H', SqL K H' a xs
theorem ScAt.seq {K : PySem.W.Frag} {H : Hp} {p a : Addr} {xs : List V} (h : ScAt K H p a xs) : SqL K H a xs := by
  rcases h with ⟨_, h⟩ | h
  · exact h
  · exact h H
theorem ScAt.but {K : PySem.W.Frag} {H H' : Hp} {p a : Addr} {xs : List V} (h : ScAt K H p a xs) (b : But p H H') : ScAt K H' p a xs := by
  rcases h with ⟨n, h⟩ | h
  · exact .inl ⟨n, b.seq n h⟩
  · exact .inr h
theorem ScAt.new {K : PySem.W.Frag} {H : Hp} {p a : Addr} {xs : List V} {o : HO} (h : SqL K H a xs) (n : H p = none) : ScAt K (upd H p o) p a xs := by
  have go : ∀ u, H a = some u → a ≠ p ∧ SqL K (upd H p o) a xs := fun u e => ⟨ne_of_none e n, (same_upd n).seq h⟩
  rcases h with (h | ⟨u, h⟩) | h
  · exact .inl (go _ h)
  · exact .inl (go _ h)
  · exact .inr fun H' => .inr h
/-- a list at p: the script (at a), the place, the mixed number, the rest -/
structure Dice (K : PySem.W.Frag) (H : Hp) (p a : Addr) (ns : List Int) : Prop where
  at_ : ∃ i m c : Int, H p = some (.lst [.ref a, .int i, .int m, .int c]) ∧ 0 ≤ i ∧ 0 ≤ m ∧ m < 2147483647
  sc : ScAt K H p a (ns.map V.int)
theorem Dice.some {K : PySem.W.Frag} {H : Hp} {p a : Addr} {ns : List Int} (d : Dice K H p a ns) : ∃ xs, H p = Option.some (.lst xs) := by
  obtain ⟨i, m, c, h, _⟩ := d.at_
  exact ⟨_, h⟩
/-- a new heap that holds the dice as it stood -/
theorem Dice.same {K : PySem.W.Frag} {H H' : Hp} {p a : Addr} {ns : List Int} (d : Dice K H p a ns) (s : Same H H') : Dice K H' p a ns := by
  obtain ⟨i, m, c, h, r⟩ := d.at_
  exact ⟨⟨i, m, c, s _ _ h, r⟩, d.sc.but (.of s)⟩
/-- what a draw from the dice at p leaves -/
structure Drew (K : PySem.W.Frag) (p a : Addr) (ns : List Int) (H H' : Hp) : Prop where
  d : Dice K H' p a ns
  b : But p H H'
theorem Drew.refl {K : PySem.W.Frag} {p a : Addr} {ns : List Int} {H : Hp} (d : Dice K H p a ns) : Drew K p a ns H H := ⟨d, .refl⟩
theorem Drew.trans {K : PySem.W.Frag} {p a : Addr} {ns : List Int} {H H1 H2 : Hp} (x : Drew K p a ns H H1) (y : Drew K p a ns H1 H2) : Drew K p a ns H H2 := ⟨y.d, x.b.trans y.b⟩
theorem Drew.same {K : PySem.W.Frag} {p a : Addr} {ns : List Int} {H H1 H2 : Hp} (x : Drew K p a ns H H1) (s : Same H1 H2) : Drew K p a ns H H2 := ⟨x.d.same s, x.b.trans (.of s)⟩
theorem Drew.free {K : PySem.W.Frag} {p a l : Addr} {ns : List Int} {H H' : Hp} (x : Drew K p a ns H H') (h : H' l = none) : H l = none := by
  obtain ⟨xs, e⟩ := x.d.some
  exact x.b.free e h
theorem Drew.ne {K : PySem.W.Frag} {p a l : Addr} {ns : List Int} {H H' : Hp} (x : Drew K p a ns H H') (h : H' l = none) : l ≠ p := fun e => by
  obtain ⟨xs, q⟩ := x.d.some
  rw [e, q] at h
  cases h
/-- a draw below n -/
def spNext (K : PySem.W.Frag) : Sp := fun vs H Q _ => ∃ (p a : Addr) (ns : List Int) (n : Int), vs = [.ref p, .int n] ∧ Dice K H p a ns ∧ 0 < n ∧ n < 1073741824 ∧
  ∀ (r : Int) (H' : Hp), 0 ≤ r → r < n → Drew K p a ns H H' → Q (.int r) H'
theorem dice_set {K : PySem.W.Frag} {H H1 : Hp} {p a : Addr} {ns : List Int} (d : Drew K p a ns H H1) {i m c : Int} (hi : 0 ≤ i) (h0 : 0 ≤ m) (h1 : m < 2147483647) {xs : List V} (e : xs = [.ref a, .int i, .int m, .int c]) : Drew K p a ns H (upd H1 p (.lst xs)) := by
  subst e
  exact ⟨⟨⟨i, m, c, upd_same, hi, h0, h1⟩, d.d.sc.but .upd⟩, d.b.trans .upd⟩
/-- the dice made -/
def spDice (K : PySem.W.Frag) : Sp := fun vs H Q _ => ∃ (a : Addr) (ns : List Int), vs = [.ref a] ∧ SqL K H a (ns.map V.int) ∧
  ∀ (p : Addr) (H' : Hp), H p = none → Same H H' → Dice K H' p a ns → Q (.ref p) H'
end Sk
namespace Sk
open PySem PySem.Spec PyProof.Rows L2
/-! ### data that are compared -/
/-- data of a depth below n, no dicts, short lists -/
inductive Fits : Nat → PyData → Prop
  | non (n : Nat) : Fits (n + 1) .none
  | bl (n : Nat) (b : Bool) : Fits (n + 1) (.bool b)
  | int (n : Nat) (i : Int) : Fits (n + 1) (.int i)
  | str (n : Nat) (x : Str) : Fits (n + 1) (.str x)
  | lst (n : Nat) {ds : List PyData} (l : ds.length ≤ 100000) (h : ∀ d ∈ ds, Fits n d) : Fits (n + 1) (.list ds)
  | tup (n : Nat) {ds : List PyData} (l : ds.length ≤ 100000) (h : ∀ d ∈ ds, Fits n d) : Fits (n + 1) (.tuple ds)
theorem DpAll.len {K : PySem.W.Frag} {H : Hp} : ∀ {vs : List V} {ds : List PyData}, DpAll K H vs ds → vs.length = ds.length
  | [], [], _ => rfl
  | _ :: _, _ :: _, h => by
    cases h with
    | cons h1 h2 => exact congrArg Nat.succ (DpAll.len h2)
  | [], _ :: _, h => by cases h
  | _ :: _, [], h => by cases h
theorem dpall_get {K : PySem.W.Frag} {H : Hp} {v : V} : ∀ (vs : List V) (ds : List PyData) (i : Nat), DpAll K H vs ds → vs[i]? = some v → ∃ d, ds[i]? = some d ∧ Dp K H v d
  | [], _, i, _, e => by simp at e
  | x :: vs, [], i, h, _ => by cases h
  | x :: vs, d :: ds, 0, h, e => by
    cases h with
    | cons h1 h2 =>
      have q : x = v := Option.some.inj e
      exact ⟨d, rfl, q ▸ h1⟩
  | x :: vs, d :: ds, i + 1, h, e => by
    cases h with
    | cons h1 h2 =>
      have e' : vs[i]? = some v := by simpa using e
      obtain ⟨d', q1, q2⟩ := dpall_get vs ds i h2 e'
      exact ⟨d', by simpa using q1, q2⟩
theorem DpAll.at_ {K : PySem.W.Frag} {H : Hp} {v : V} {vs : List V} {ds : List PyData} {i : Nat} (h : DpAll K H vs ds) (e : vs[i]? = some v) : ∃ d, ds[i]? = some d ∧ Dp K H v d := dpall_get vs ds i h e
def tyN : PyData → String
  | .none => "NoneType"
  | .bool _ => "bool"
  | .int _ => "int"
  | .str _ => "str"
  | .list _ => "list"
  | .tuple _ => "tuple"
  | .dict _ => "dict"
theorem sql_ty {K : PySem.W.Frag} {H : Hp} {a : Addr} {xs : List V} (h : SqL K H a xs) : TyX K H (.ref a) (.type "list") := by
  rcases h with (h | ⟨o, h⟩) | ⟨o, its, n, h, c, _⟩
  · exact .base (.lst h)
  · exact .base (.frz h)
  · exact .kList h c
theorem sqt_ty {K : PySem.W.Frag} {H : Hp} {a : Addr} {xs : List V} (h : SqT K H a xs) : TyX K H (.ref a) (.type "tuple") := by
  rcases h with (h | ⟨o, h⟩) | ⟨o, its, n, h, c, _⟩
  · exact .base (.tup h)
  · exact .fTuple h
  · exact .kTuple h c
theorem dp_ty {K : PySem.W.Frag} {H : Hp} {v : V} {d : PyData} (h : Dp K H v d) : TyX K H v (.type (tyN d)) := by
  cases h with
  | non => exact .base .non
  | bl b => exact .base (.bl b)
  | int i => exact .base (.int i)
  | str x => exact .base (.str x)
  | lst h _ => exact sql_ty h
  | tup h _ => exact sqt_ty h
/-- two that read as the same data: True -/
def spLike (K : PySem.W.Frag) (n : Nat) : Sp := fun vs H Q _ => ∃ (x y : V) (d : PyData), vs = [x, y] ∧ Dp K H x d ∧ Dp K H y d ∧ Fits n d ∧ Q (.bl true) H
theorem dec_self (x : V) : decide (x = x) = true := decide_eq_true rfl
theorem Fits.mono : ∀ {n m : Nat} {d : PyData}, Fits n d → n ≤ m → Fits m d
  | n + 1, 0, _, _, h => absurd h (Nat.not_succ_le_zero n)
  | n + 1, m + 1, _, .non _, _ => .non m
  | n + 1, m + 1, _, .bl _ b, _ => .bl m b
  | n + 1, m + 1, _, .int _ i, _ => .int m i
  | n + 1, m + 1, _, .str _ x, _ => .str m x
  | n + 1, m + 1, _, .lst _ l h, z => .lst m l fun d hd => (h d hd).mono (Nat.le_of_succ_le_succ z)
  | n + 1, m + 1, _, .tup _ l h, z => .tup m l fun d hd => (h d hd).mono (Nat.le_of_succ_le_succ z)
end Sk
namespace Sk
open PySem PySem.Spec PyProof.Rows L2
/-- a new object at D, stored to: the dice stand -/
theorem Drew.put {K : PySem.W.Frag} {p a D : Addr} {ns : List Int} {H H1 : Hp} {o : HO} (d0 : Dice K H p a ns) (x : Drew K p a ns H H1) (n : H D = none) (ne : D ≠ p) : Drew K p a ns H (upd H1 D o) := by
  have b : But p H (upd H1 D o) := fun c u q e => by
    rw [upd_ne (ne_of_none e n)]
    exact x.b c u q e
  obtain ⟨i, m, c, h, r⟩ := x.d.at_
  exact ⟨⟨⟨i, m, c, by rw [upd_ne (Ne.symm ne)]; exact h, r⟩, d0.sc.but b⟩, b⟩
end Sk
namespace Sk
open PySem PySem.Spec PyProof.Rows L2
/-- a comprehension without a test -/
theorem tyes {σ : L2.St} {H : Hp} {A B : Hp → Prop} (h : A H) : tYes σ H fun b H3 => if b = true then A H3 else B H3 := by
  show (if true = true then A H else B H)
  rw [if_pos rfl]
  exact h
end Sk


/-! Own errors: made where nothing is handled, their base's __init__ called by its class's name. -/
namespace Sk
open PySem PySem.Spec PyProof.Rows L2
/-- B is an own class whose __init__ is that of ValueError -/
structure BaseI (K : PySem.W.Frag) (B : Addr) (mc : Value) : Prop where
  rd : PySem.W.readsIn K B mc = true
  ga : PySem.W.specialIn K (.ref B) "__getattribute__" = some (some (.builtin "type.__getattribute__"))
  at_ : PySem.W.findCls K (.ref B) mc "__init__" = some (.val (.builtin "ValueError.__init__"))
section
variable {X : Cx} {e : Expr} {es : List Expr} {ta : TA} {p1 p2 pos : Pos} {x : Str} {B : Addr} {mc : Value}
theorem pe_ownInit {pl : Sem Bool} (hg : Gl X x) (hm : X.mg x = some (.ref B)) (T : BaseI X.K B mc) (ha : PA X (e :: es) ta) (hdb : (x == ("__debug__" : Str)) = false := by decide)
    (hform : eval (.Call (.Attribute (.Name x p1) "__init__" p2) (e :: es) [] pos) X.env = (do
      let ov ← eval (.Name x p1) X.env
      standAt p2.atName
      let (g, first) ← holding [ov] (getMethod ov "__init__" pl)
      callWith pos g first (backTo pos (starEach (e :: es) X.env)) (backToKw pos (keywordEach [] X.env))) := by rfl)
    (hst : starEach (e :: es) X.env = (false, eval e X.env) :: starEach es X.env := by rfl) (hno : (backTo pos (starEach es X.env)).any (·.1) = false := by rfl) :
    PE X (.Call (.Attribute (.Name x p1) "__init__" p2) (e :: es) [] pos) (tVeI X.K ta) := by
  refine ⟨fun pins s σ H Q I h => PySem.W.methodCall_KW (ld_glob I hg hm ?_ hdb) hform⟩
  refine PySem.W.method_cls I.kIn T.ga (PySem.W.cls_value I.kIn T.rd T.at_ (by decide +kernel) ?_)
  show wpAny _ _ (callWith pos (Value.builtin "ValueError.__init__") [] (backTo pos (starEach (e :: es) X.env)) []) _ _ _
  refine PyProof.Rows.callWith_method1 (thn (ha.run pos pins _ σ H _ (I.tok _) h) fun us s1 z => ?_) hst hno
  obtain ⟨vs, H1, I1, r1, a, C, ws, ev, hl, TC, ea, q⟩ := z
  subst ev
  cases r1 with
  | @cons _ u0 _ ur ra rw' =>
    have e0 : u0 = Value.ref a := ra
    subst e0
    have hz : ur.length ≤ sizeLine := by
      have := Paired.length rw'
      rw [sizeLine_eq]
      omega
    exact oinit_ok TC I1 ea hz fun s' J => ⟨.non, H1, J, rfl, q⟩
end
/-- an own error of the class x, made where nothing is handled: its context is None -/
theorem pmkN {X : Cx} {CX : CXT} {x : Str} {C fI : Addr} {k : Nat} {fd : FuncData} {ps : List Str} {sp : Sp} {e : Expr} {es : List Expr} {ta : TA} {p pos : Pos} (T : OexC X.K C)
    (hi : PySem.W.findIn X.K (.ref C) "__init__" = some (some (.ref fI))) (ht : PySem.W.typeIn X.K (.ref fI) = some (.type "function"))
    (FI : FnOk X.prog X.w X.K X.mg X.base CX k fI fd ps sp) (hr : Room (k + 1) X.A) (hb : Binds X.K fd ps []) (hx : Passes CX X E0) (hg : Gl X x) (hm : X.mg x = some (.ref C)) (ha : PA X (e :: es) ta)
    (hdb : (x == ("__debug__" : Str)) = false := by decide) (hst : starEach (e :: es) X.env = (false, eval e X.env) :: starEach es X.env := by rfl) (hno : (backTo pos (starEach es X.env)).any (·.1) = false := by rfl) :
    L2N.PMk X (.Call (.Name x p) (e :: es) [] pos) (tMkO C sp [] ta) := by
  intro pins s σ H Q I h
  obtain ⟨nm, q, N, bs, bm, sn, sub, ab, col, dd, k0, k1, k2, k3, k5, hC, hbm⟩ := T.cls
  refine wpAny_Call_Name_kw (ld_glob I hg hm ?_ hdb)
  refine PySem.W.callWith_K (h₀ := X.base) I.ok.mod.kin T.kC (thn (ha.run pos pins s σ H _ I h) fun us s1 z => ?_) hst hno
  obtain ⟨vs, H1, I1, r1, hz, q1⟩ := z
  refine ⟨I1.kIn, ?_⟩
  show wpAny _ _ (call (.ref C) us) _ _ _
  obtain ⟨hp, g, dr, tk, os⟩ := s1
  let a := hp.objs.size + 1
  have la : hp.objs.size ≤ a := Nat.le_succ _
  have na : H1 a = none := I1.hok.fresh la
  have hq := q1 a na
  rw [List.append_nil] at hq
  let h2 := (hp.push (PySem.W.kdv_tup us)).push (PySem.HandSPX.excO C hp.objs.size)
  have kk : ∀ b o, hp.get? b = some o → h2.get? b = some o := fun b o z => Heap.get?_push_of_some _ (Heap.get?_push_of_some _ z)
  have there : h2.get? a = some (PySem.HandSPX.excO C hp.objs.size) := by
    show ((hp.push (PySem.W.kdv_tup us)).push (PySem.HandSPX.excO C hp.objs.size)).get? (hp.objs.size + 1) = _
    heap_get
  have I2 : Inv X pins σ (upd H1 a (exo a C none)) ⟨h2, g, dr, tk, os⟩ := I1.laid (t' := tk) (a := a) (o := exo a C none) (h' := h2) kk la (exo_ok there)
  have r2 : Vals (V.ref a :: vs) (Value.ref a :: us) := .cons rfl r1
  have hlen : (Value.ref a :: us).length = ps.length := by
    rw [← r2.length]
    exact FI.len _ _ _ _ hq
  have hus : us.length ≤ sizeLine := by
    have := Paired.length r1
    rw [sizeLine_eq]
    omega
  have hbind := hb ⟨h2, g, dr, tk, os⟩ (Value.ref a :: us) I2.kIn (by rw [List.append_nil]; exact hlen)
  rw [List.append_nil] at hbind
  refine wpAny_call (PySem.HandSPX.call_own F.excBase_ValueError (fun Y => PySem.HandSPX.refsVE_contains Y bm hbm) (I1.kIn _ _ hC) (PySem.W.looks_findIn I1.kIn hi) (fun self => PySem.W.bind_fn I1.kIn self ht) hus
    (codeAny_mono (FI.run _ X.stack _ _ ⟨Value.ref a :: us, []⟩ (Value.ref a :: us) _ _ E0 (hr.make C us []) (I2.env0.make C us []) hbind r2 hq) fun r s' hq' => ?_))
  cases r with
  | error er => exact hx pins σ _ _ er s' I2 hq'
  | ok fl =>
    cases fl with
    | ret u =>
      obtain ⟨v, H2, os2, bare2, un2, hok2, rv, ev, d, fs, ea, ed, hd1, q2⟩ := hq'
      subst ev
      obtain ⟨h3, g2, d2, t2, os'⟩ := s'
      obtain ⟨t0, G, J, kG, ge, hoe, nd⟩ := mk_end0 (d2 := d2) (t2 := t2) I1 la kk un2 hok2 os2 bare2 ea ed hd1
      exact ⟨rv, a, _, _, ⟨G, g2, d2, t2, os'⟩, _, .ref C, some d, rfl, J, kG, ge, hoe, ⟨rfl, rfl, fun vs z => by cases z; rfl⟩, rfl, rfl, nd, rfl, bare2, raises_own T.exC T.tyC, q2⟩
    | next => exact False.elim hq'
    | brk => exact False.elim hq'
    | cont => exact False.elim hq'
end Sk


/-! Where an error is being handled: lists walked, comprehensions, defs that are told which error it is. -/
namespace Sk
open PySem PySem.Spec PyProof.Rows L2 L2H HotX
/-- a list's iterator at its end, while an error is handled -/
theorem list_end_hot {prog : Program} {w : World} {A : Around} {E : Value → Shared → Prop} {s : Shared} {it l x1 : Addr} {i : Nat} {items : Array Value} {Q : Option Value → Shared → Prop} (hot : HotAt A x1 s.heap) (nx : x1 ≠ it)
    (hit : s.heap.IsListIter it l i) (hl : s.heap.IsList l items) (hx : items[i]? = none) (q : ∀ h', (∀ b o, b ≠ it → s.heap.get? b = some o → h'.get? b = some o) → Q none { s with heap := h' }) : wpAny (model prog w) A (pyNext (.ref it)) Q E s := by
  obtain ⟨oi, e1, e2, e3⟩ := id hit
  obtain ⟨ol, f1, _, nl, f2⟩ := hl
  obtain ⟨hh, o1, v1, g1, g2, g3⟩ := hot
  have li : it < s.heap.objs.size := Heap.lt_size e1
  unfold pyNext
  refine wpAny_bind (wpAny_attempt (wpAny_callSpecial?_slot (name := Str.ofString "__next__") hit.typeIs slot_listiter_next (wpAny_call_entry slot_listiter_next hit.typeIs entry_listiter_next ?_ (args_listiter_next _))))
  show wpAny _ _ (field (.ref it) 0 >>= _) _ _ s
  refine wpAny_bind (wpAny_field e1 e3 (x := .ref l) rfl ?_)
  show wpAny _ _ (if (Value.ref l == Value.none) = true then _ else _) _ _ s
  rw [if_neg (by simp)]
  show wpAny _ _ (field (.ref it) 1 >>= _) _ _ s
  refine wpAny_bind (wpAny_field e1 e3 (x := .int i 0) rfl ?_)
  show wpAny _ _ (seqItems? (.ref l) >>= _) _ _ s
  refine wpAny_bind (wpAny_seqItems f1 f2 ?_)
  simp only [Int.toNat_natCast, hx]
  refine wpAny_bind (wpAny_rule (wpAny_bind (wpAny_setField e1 e3 (by simp) ?_)))
  show wpAny _ _ (newExc (.type "StopIteration") [] >>= _) _ _ _
  refine wpAny_bind ?_
  simp only [newExc, newTuple]
  refine wpAny_bind (wpAny_newObj_type ?_ (by size_fits))
  refine wpAny_bind (m := firstArgMember _ _) (wpAny_of_eq (a := Value.none) (by first | rfl | (simp only [firstArgMember]; rfl)) ?_)
  refine wpAny_newObj_type ?_ (by size_fits)
  have g1' := (Heap.SameBut.update s.heap it (Obj.mapFields (·.setIfInBounds 0 Value.none))).2 x1 nx
  refine raiseNew_hot ⟨hh, o1, v1, Heap.get?_push_of_some _ (Heap.get?_push_of_some _ (g1'.trans g1)), g2, g3⟩ (Nat.ne_of_lt (Heap.lt_size (Heap.get?_push_of_some _ (g1'.trans g1)))) (Heap.get?_push_size _ rfl) rfl
    (by first | (simp; done) | (simp; omega) | (simp only [Array.size_append]; simp; omega)) ?_
  refine wpAny_bind (wpAny_isInstance (T := "StopIteration") (b := true) ⟨_, Heap.get?_update_self _ (Heap.get?_push_size _ rfl) rfl, rfl⟩ isSubtype_stop ?_)
  refine wpAny_pure (q _ fun b o nb e => ?_)
  have e' := ((Heap.SameBut.update s.heap it (Obj.mapFields (·.setIfInBounds 0 Value.none))).2 b nb).trans e
  rw [Heap.get?_update_other _ _ (Nat.ne_of_gt (Heap.lt_size (Heap.get?_push_of_some _ e')))]
  exact Heap.get?_push_of_some _ (Heap.get?_push_of_some _ e')
end Sk
namespace Sk
open PySem PySem.Spec PyProof.Rows L2 L2H HotX
section
variable {X : Cx} {elt tg iter : Expr} {scope : Scope} {own : List (Str × Nat)} {pos : Pos} {tl te : TE} {g : TG}
/-- [elt for target in a list], while an error is handled -/
theorem pe_lcHot (hot : HotC X) (hN : X.N.Nodup) (hl : PE X iter tl) (ok : BlkOk X.N X.env.scope scope own)
    (hg : ∀ (s : Shared) (H : Hp) (C : Addr) (cl : List (Str × Addr)) (fp : List Addr), PG (X.blk s H scope (compEnvC scope cl C X.env) fp) tg g)
    (he : ∀ (s : Shared) (H : Hp) (C : Addr) (cl : List (Str × Addr)) (fp : List Addr), PE (X.blk s H scope (compEnvC scope cl C X.env) fp) elt te)
    (hs : ∀ x, foldedSetIterable iter X.env x = pure x := by intro _; rfl) :
    PE X (.ListComp elt [⟨tg, iter, [], 0⟩] scope pos) (tLc (iList X.K tl) g tYes te (own.map (·.2))) := by
  refine ⟨fun pins s σ H Q I h => ?_⟩
  obtain ⟨p, ⟨hand, v1, pd, pc⟩, pin⟩ := id hot
  have caps : ∀ y ∈ scope.names, y.2 = .free → ∃ c, X.env.cells.lookup y.1 = some c := fun y hy e => (ok.free y hy e).elim (fun k => I.ok.has _ (.inl k)) fun k => I.ok.has _ (.inr k)
  rw [eval_ListComp]
  refine wpAny_comprehension_free (use := none) rfl hs (closure_ok caps) ok.kind (fun y hy e => by rw [ok.uniq y hy, e]) (thn (hl.run pins s σ H _ I h) fun v0 s1 z => ?_)
  obtain ⟨x0, H1, I1, r0, a, ea, ⟨xs0, hq0⟩, q⟩ := z
  subst ea
  cases r0
  obtain ⟨its0, _, pl0, _⟩ := I1.list hq0
  refine wpAny_pyIter_list pl0.isList (wpAny_newObj_type (newEnv_comp ?_) (by show 0 ≤ sizeLine; decide))
  -- the iterator at t, the new list at D
  obtain ⟨t, ht⟩ : ∃ t, t = s1.heap.objs.size := ⟨_, rfl⟩
  obtain ⟨sA, hA⟩ : ∃ sA : Shared, sA = { s1 with heap := s1.heap.push { cls := .type "list_iterator", data := .fields #[.ref a, .int 0 0] } } := ⟨_, rfl⟩
  rw [← ht, ← hA]
  have IA : Inv X pins σ H1 sA := by
    rw [hA]
    exact I1.kept (t' := s1.toks) fun b o e => Heap.get?_push_of_some _ e
  have itA : sA.heap.IsListIter t a 0 := by
    rw [hA, ht]
    exact ⟨_, Heap.get?_push_size _ rfl, rfl, rfl⟩
  have okA : FpOk X pins H1 t := by
    rw [ht]
    exact I1.fpOk (Nat.le_refl _) (I1.hok.fresh (Nat.le_refl _))
  obtain ⟨D, hD⟩ : ∃ D, D = sA.heap.objs.size := ⟨_, rfl⟩
  have nD : H1 D = none := IA.hok.fresh (Nat.le_of_eq hD.symm)
  have lt : t < sA.heap.objs.size := by
    obtain ⟨_, e, _⟩ := itA
    exact Heap.lt_size e
  have tD : t ≠ D := by
    rw [hD]
    exact Nat.ne_of_lt lt
  obtain ⟨W, ⟨m0, w0⟩, turn⟩ := q D nD
  obtain ⟨sB, hB⟩ : ∃ sB : Shared, sB = { sA with heap := sA.heap.push { cls := .type "list", data := .seq ([] : List Value).toArray } } := ⟨_, rfl⟩
  rw [← hD, ← hB]
  obtain ⟨HB, eHB⟩ : ∃ HB : Hp, HB = upd H1 D (.lst []) := ⟨_, rfl⟩
  rw [← eHB] at w0
  have IB : Inv X pins σ HB sB := by
    rw [eHB, hB]
    refine IA.laid (t' := sA.toks) (fun b o e => Heap.get?_push_of_some _ e) (Nat.le_of_eq hD.symm) ⟨Nat.zero_le _, [], 0, .nil, ?_⟩
    rw [hD]
    exact Heap.get?_push_size _ rfl
  have itB : sB.heap.IsListIter t a 0 := itA.at fun o e => by
    rw [hB]
    exact Heap.get?_push_of_some _ e
  have nB : HB t = none := by
    rw [eHB, upd_ne tD]
    exact okA.1
  have okB : FpOk X pins HB t := ⟨nB, okA.2⟩
  have ltB : t < sB.heap.objs.size := by
    obtain ⟨_, e, _⟩ := itB
    exact Heap.lt_size e
  have fB : ∀ b ∈ [t], FpOk X pins HB b ∧ b < sB.heap.objs.size := fun b hb => by
    obtain rfl : b = t := by simpa using hb
    exact ⟨okB, ltB⟩
  -- the handled error
  have pinB := IB.pin p (List.mem_append_left _ pin)
  have pt : p.1 ≠ t := okB.2.2.2.2.2 p (List.mem_append_left _ pin)
  have I4 := block_start IB ok hN fB
  have pg := hg sB HB sB.heap.objs.size (cellsFrom (sB.heap.objs.size + 1) scope.names (cloFrom X.env.cells scope.names [])) [t]
  have pe := he sB HB sB.heap.objs.size (cellsFrom (sB.heap.objs.size + 1) scope.names (cloFrom X.env.cells scope.names [])) [t]
  show codeAny _ _ (.compStart (.ListComp elt [⟨tg, iter, [], 0⟩] scope pos) 0 (.ref t) (.ref D) (compEnvC scope (cellsFrom (sB.heap.objs.size + 1) scope.names (cloFrom X.env.cells scope.names [])) sB.heap.objs.size X.env))
    (compPost (model X.prog X.w) X.A X.xe none (EP X pins σ Q) (.ref D) sB.heap.objs.size) { sB with heap := pushCells (sB.heap.push { cls := .type "dict", data := .dict #[] }) scope.names }
  obtain ⟨ce, ece⟩ : ∃ ce, ce = compEnvC scope (cellsFrom (sB.heap.objs.size + 1) scope.names (cloFrom X.env.cells scope.names [])) sB.heap.objs.size X.env := ⟨_, rfl⟩
  rw [← ece] at I4 pg pe ⊢
  have lce : ce.locals = sB.heap.objs.size := by
    rw [ece]
    rfl
  obtain ⟨sC, hC⟩ : ∃ sC : Shared, sC = { sB with heap := pushCells (sB.heap.push { cls := .type "dict", data := .dict #[] }) scope.names } := ⟨_, rfl⟩
  rw [← hC] at I4 ⊢
  have itC : sC.heap.IsListIter t a 0 := itB.at fun o e => by
    rw [hC]
    exact pushCells_keeps _ _ _ _ (Heap.get?_push_of_some _ e)
  -- within the block
  have fpk : ∀ {σ' : L2.St} {H' : Hp} {s' : Shared}, Inv (X.blk sB HB scope ce [t]) [] σ' H' s' → H' t = none → FpOk (X.blk sB HB scope ce [t]) [] H' t := fun {σ' H' s'} J hn =>
    have m : t ∈ [t] := List.mem_singleton_self t
    ⟨hn, (J.ok.exf t m).1, J.ok.exfs t m, .inl m, fun x c e => (J.ok.exf t m).2 x c e, fun r hr => absurd (show r ∈ ([] : List (Addr × Obj)) ++ [] from hr) (by simp)⟩
  have hotIn : ∀ {σ' : L2.St} {H' : Hp} {s' : Shared}, Inv (X.blk sB HB scope ce [t]) [] σ' H' s' → HotAt X.A p.1 s'.heap := fun {σ' H' s'} J =>
    ⟨hand, p.2, v1, J.base.keep p.1 p.2 pinB.1 pinB.2.1 (fun z => (List.mem_cons.mp (IB.stkSub p.1 (by exact z))).elim pinB.2.2.1 pinB.2.2.2.1) (fun z => pt (by simpa using (show p.1 ∈ [t] from z))), pd, pc⟩
  have loop : codeAny (model X.prog X.w) X.A (.compLoop (.ListComp elt [⟨tg, iter, [], 0⟩] scope pos) 0 (.ref t) (.ref D) ce) (compPost (model X.prog X.w) X.A X.xe none (EP X pins σ Q) (.ref D) sB.heap.objs.size) sC := by
    refine compLoop_any (fun n s' => ∃ i H', Inv (X.blk sB HB scope ce [t]) [] (wipe σ (own.map (·.2))) H' s' ∧ s'.heap.IsListIter t a i ∧ H' t = none ∧ W i n H') ?_ m0 ⟨0, HB, I4, itC, nB, w0⟩
    rintro n s5 ⟨i, H5, I5, it5, n5, w5⟩
    have F5 := fpk I5 n5
    obtain ⟨f0, f1, f2, f3, f4, f5⟩ := F5
    rcases turn i n H5 w5 with ⟨⟨xs, hq, hx⟩, qq⟩ | ⟨⟨xs, x, hq, hx⟩, Nx, hNx, step⟩
    · obtain ⟨its, rv, pl, _⟩ := I5.list hq
      have lv := rv.length
      refine list_end_hot (hotIn I5) pt it5 pl.isList (by simp; omega) fun h' kp => ?_
      have I6 : Inv (X.blk sB HB scope ce [t]) [] (wipe σ (own.map (·.2))) H5 { s5 with heap := h' } := I5.turned (t' := s5.toks) kp f0 f1 f3 f4 f5
      have I7 : Inv X pins σ H5 { s5 with heap := h' } := IB.call' (ch := [t]) I6.os I6.base I6.hok I6.bare fun b hb => ⟨(fB b hb).1.2.2.2.1, (fB b hb).1.2.1, (fB b hb).1.2.2.2.2.1, (fB b hb).1.2.2.2.2.2⟩
      have nC : H5 sB.heap.objs.size = none := by
        have z : H5 ce.locals = none := I6.free
        rw [lce] at z
        exact z
      obtain ⟨m, hn, _⟩ := I6.loc
      have hn' : h'.Ns sB.heap.objs.size m := by
        rw [← lce]
        exact hn
      refine ⟨m, hn', fun h2 sb => ?_⟩
      obtain ⟨u0, u1, _, u3, u4, u5⟩ := IB.fpOk (Nat.le_refl _) nC
      exact ⟨.ref D, H5, I7.turned (t' := s5.toks) (fun b o hb e => (sb.2 b hb).trans e) u0 u1 u3 u4 u5, rfl, qq⟩
    · obtain ⟨its, rv, pl, _⟩ := I5.list hq
      obtain ⟨u, hu, ru⟩ := rv.get hx
      refine wpAny_pyNext_list_item it5 pl.isList (x := u) (by simpa using hu) fun h' it6 sb => ?_
      have I6 : Inv (X.blk sB HB scope ce [t]) [] (wipe σ (own.map (·.2))) H5 { s5 with heap := h' } := I5.turned (t' := s5.toks) (fun b o hb e => (sb.2 b hb).trans e) f0 f1 f3 f4 f5
      obtain ⟨oi, e1, e2, e3⟩ := id it6
      refine go_of (s := { s5 with heap := h' }) e1 e2 e3 (by decide) ?_
      have I6' := I6.pinned (fp := [t]) (fun b hb => by
        obtain rfl : b = t := by simpa using hb
        exact fpk I6 n5) (fun b hb => by
        obtain rfl : b = t := by simpa using hb
        exact ⟨oi, e1, fun v z => by rw [e3] at z; cases z⟩)
      refine thnF (pg.run _ _ _ H5 x u _ I6' ru (step x H5 ⟨rfl, fun ys hy => by rw [I5.list_inj hy hq]; exact hx⟩)) fun _ s8 z8 => ?_
      obtain ⟨σ8, H8, I8, hw8, q8⟩ := z8
      refine wpAny_tests_nil ?_
      rw [if_pos rfl]
      have q8' : te σ8 H8 fun y H4 => ∃ acc, H4 D = some (.lst acc) ∧ acc.length < sizeLine ∧ Nx (upd H4 D (.lst (acc ++ [y]))) := by
        have z : (if true = true then te σ8 H8 (fun y H4 => ∃ acc, H4 D = some (.lst acc) ∧ acc.length < sizeLine ∧ Nx (upd H4 D (.lst (acc ++ [y])))) else Nx H8) := q8
        rw [if_pos rfl] at z
        exact z
      refine thnF (pe.run _ s8 σ8 H8 _ I8 q8') fun y0 s10 z10 => ?_
      obtain ⟨yv, H10, I10, r10, acc, hD10, hz10, nx⟩ := z10
      refine app_ok (X := X.blk sB HB scope ce [t]) I10 hD10 hz10 r10 fun s11 I11 => ?_
      obtain ⟨m', hm, w'⟩ := hNx _ nx
      have keepT := I11.pin (t, oi) (List.mem_append_right _ (List.mem_append_right _ (mem_pinsAt (List.mem_singleton_self t) e1)))
      have hlen : (wipe σ (own.map (·.2))).length = σ8.length := by rw [← hw8, wipe_length]
      refine ⟨m', hm, i + 1, _, (I11.unpinned (pins := [])).weak hlen (fun j v e => ?_), it6.at fun o e => ?_, keepT.2.1, w'⟩
      · rw [← hw8] at e
        exact (wipe_some e).1
      · rw [e1] at e
        cases e
        exact keepT.1
  exact codeAny_compStart_list loop (wpAny_pyIter_listiter itC loop)
end
end Sk


/-! A def that is called where an error is handled, and is told which. -/
namespace Sk
open PySem PySem.Spec PyProof.Rows L2 L2H HotX
/-- sp p: the promise where p is the handled error and its object -/
structure FnE (P : Program) (w : World) (K : PySem.W.Frag) (mg : Str → Option Value) (base : Heap) (CX : CXT) (k : Nat) (f : Addr) (fd : FuncData) (ps : List Str) (sp : Addr × Obj → Sp) : Prop where
  len : ∀ p vs H Q E, sp p vs H Q E → vs.length = ps.length
  run : ∀ (A : Around) (outer : List Env) (s : Shared) (H : Hp) (args : Args) (us : List Value) (vs : List V) (Q : VK) (E : XK) (p : Addr × Obj), RoomH k A → Hot1 A p → PinOk outer H s p → Env0 P w K mg base A outer s H →
    BindsTo s fd args (ps.zip us) → Vals vs us → sp p vs H Q E → codeAny (model P w) A (.call (.ref f) args) (CR CX outer P w H s Q E) s
theorem fn_hot {CX : CXT} {P : Program} {w : World} {K : PySem.W.Frag} {mg : Str → Option Value} {base : Heap} {k : Nat} {f : Addr} {x q : Str} {st : Stmt} {fd : FuncData} {N ps : List Str} {sp : Addr × Obj → Sp} (F : FnP K x q st f fd) (S : FnScope N ps (defScope st))
    (len : ∀ p vs H Q E, sp p vs H Q E → vs.length = ps.length)
    (body : ∀ (cdv : Value) (A : Around) (outer : List Env) (s : Shared) (H : Hp) (vs : List V) (Q : VK) (E : XK) (p : Addr × Obj), Hot1 A p → RoomH k (A.deeper (envOfC q (defScope st) s.heap.objs.size f cdv)) → sp p vs H Q E →
      ∃ t, PSs (cxH CX P w K mg base N q (defScope st) f cdv A outer s H E p) (defBody st) t ∧ t { nx := fun _ H' => Q .non H', rt := Q } (L2.start N vs) H) : FnE P w K mg base CX (k + 1) f fd ps sp := by
  obtain ⟨oc, od, dV, kV, doc, pm, an, cdv, ct, osl, rfl, lk, hcd, _, _⟩ := F.ex
  refine ⟨len, fun A outer s H args us vs Q E p room hot pin e0 hb r hsp => ?_⟩
  have hl := len _ _ _ _ _ hsp
  have old : ∀ b o, base.get? b = some o → s.heap.get? b = some o := fun b o e => (e0.bs b o e).1
  have KX : K.In s.heap := e0.mod.kin.keeps old
  have kinds : ∀ y ∈ ps.zip us, (defScope st).names.lookup y.1 = some .local ∨ ((defScope st).names.lookup y.1 = some .cell ∧ ((cellsFrom (s.heap.objs.size + 1) (defScope st).names []).lookup y.1).isSome = true) := fun y hy =>
    (S.par y.1 (List.of_mem_zip (a := y.1) (b := y.2) hy).1).imp id fun c => ⟨c, PySem.W.cellsFrom_some _ _ _ (.inl c)⟩
  refine codeAny_call_function room.depth (KX _ _ lk) rfl S.co S.gen rfl (PySem.W.codeRec_of KX hcd) (hb _ _ _ _ ?_)
  refine wpAny_newFunctionEnv_cells S.kind kinds fun env he s1 z => ?_
  subst he
  refine ⟨(e0.mod.nolimit.keeps old).keeps z.toInCall.keep, codeAny_func ?_⟩
  obtain ⟨t, ht, hq⟩ := body cdv A outer s H vs Q E p hot (room.deeper _) hsp
  refine wpAny_mono (ht.run [] s1 (L2.start N vs) H _ (inv_startH S pin e0 hl r z) hq) (fun fl s' hs => ?_) fun e s' hs => hs
  cases fl with
  | next =>
    obtain ⟨σ', H', J, q⟩ := hs
    exact ⟨.non, H', J.os, J.bare, J.base, J.hok, rfl, q⟩
  | ret u =>
    obtain ⟨v, σ', H', J, rv, q⟩ := hs
    exact ⟨v, H', J.os, J.bare, J.base, J.hok, rv, q⟩
  | brk =>
    obtain ⟨_, _, _, q⟩ := hs
    exact q.elim
  | cont =>
    obtain ⟨_, _, _, q⟩ := hs
    exact q.elim
section
variable {X : Cx} {CX : CXT} {k : Nat} {f : Addr} {fd : FuncData} {ps : List Str} {sp : Addr × Obj → Sp} {x : Str} {q pos : Pos} {e : Expr} {es : List Expr} {t : TA} {p : Addr × Obj}
/-- its call: p the handled error -/
theorem pe_callE (F : FnE X.prog X.w X.K X.mg X.base CX k f fd ps sp) (hr : RoomH k X.A) (hp : Hot1 X.A p) (hm : p ∈ X.pn) (hg : Gl X x) (gx : X.mg x = some (.ref f)) (hk : PySem.W.keepIn X.K (.ref f) = true) (hb : Binds X.K fd ps []) (hx : Passes CX X E0)
    {sq : Sp} (imp : ∀ vs H Q, sq vs H Q E0 → sp p vs H Q E0) (ha : PA X (e :: es) t) (hdb : (x == ("__debug__" : Str)) = false := by decide) (hst : starEach (e :: es) X.env = (false, eval e X.env) :: starEach es X.env := by rfl) (hno : (backTo pos (starEach es X.env)).any (·.1) = false := by rfl) :
    PE X (.Call (.Name x q) (e :: es) [] pos) (fun σ H Q => t σ H fun vs H1 => sq vs H1 Q E0) := by
  refine ⟨fun pins s σ H Q I h => wpAny_Call_Name_kw (ld_glob I hg gx ?_ hdb)⟩
  refine PySem.W.callWith_K (h₀ := X.base) I.ok.mod.kin hk (thn (ha.run pos pins s σ H _ I h) fun us s1 z => ?_) hst hno
  obtain ⟨vs, H1, I1, r, hs0⟩ := z
  have hs := imp _ _ _ hs0
  refine ⟨I1.kIn, ?_⟩
  have hl : us.length = ps.length := by
    rw [← r.length]
    exact F.len _ _ _ _ _ hs
  have bind := hb s1 us I1.kIn (by rw [List.append_nil]; exact hl)
  rw [List.append_nil] at bind
  obtain ⟨g1, g2, g3, g4, g5⟩ := I1.pin p (List.mem_append_left _ hm)
  refine wpAny_call (codeAny_mono (F.run X.A X.stack s1 H1 ⟨us, []⟩ us vs Q E0 p hr hp ⟨g1, g2, fun z => (List.mem_cons.mp (I1.stkSub p.1 z)).elim g3 g4, g5⟩ I1.env0 bind r hs) fun r' s' hq => ?_)
  cases r' with
  | error er => exact hx pins _ _ _ er s' I1 hq
  | ok fl =>
    cases fl with
    | ret u => exact I1.after hq
    | next => exact hq.elim
    | brk => exact hq.elim
    | cont => exact hq.elim
/-- isinstance of the handled error, of an own class, with or without a dict -/
def rIsH (K : PySem.W.Frag) (D a : Addr) : List V → Hp → VK → Prop := fun xs H Q => ∃ (c : V) (cv : Value) (b : Bool), xs = [.ref a, c] ∧ ClsV c cv ∧ PySem.W.kitOne K (.ref D) cv = some b ∧ Q (.bl b) H
end
end Sk


/-! isinstance of the handled error, in a def that was called there; its fields. -/
namespace Sk
open PySem PySem.Spec PySem.Calls PyProof.Rows L2 L2H HotX
section
open PySem.W
variable {prog : Program} {w : World} {A : Around} {E : Value → Shared → Prop} {s : Shared} {K : Frag} {x D : Addr} {ox : Obj} {od : Option Obj}
theorem find_cls (T : ExcC K D) : findObj K D od "__class__" = some (.bind (.builtin "getset_descriptor.__get__") (.builtin "object.__class__")) := by
  obtain ⟨cd, hc, _⟩ := any_some T.hd
  unfold findObj
  rw [hc, Option.bind_some, T.ha, Option.bind_some]
  simp only [T.hn, T.ht, Option.bind_some]
/-- e.__class__ -/
theorem cls_of_exc {Q : Option Value → Shared → Prop} (T : ExcC K D) (X : K.In s.heap) (I : InstAt s.heap x ox D od) (h : Q (some (.ref D)) { s with toks := s.toks + 1 }) : wpAny (model prog w) A (getAttr? (.ref x) "__class__") Q E s := by
  obtain ⟨hp, g, d, t, os⟩ := s
  have k0 := I.type (M := model prog w)
  have k1 := looks_findIn (M := model prog w) X T.hg
  have k2 := looks_findIn (M := model prog w) X T.hk
  have k3 := looks_find (M := model prog w) X I (find_cls (od := od) T)
  have sub : Looks (model prog w) hp (isInstance (.ref x) (.type "BaseException")) true := k0.andThen (looks_subIn X T.hs)
  have own : (Value.builtin "BaseException.__getattribute__" == Value.builtin "object.__getattribute__") = false := by decide +kernel
  unfold getAttr? getAttrBy? getAttrBy
  refine wpAny_bind (wpAny_mkText (wpAny_bind (wpAny_attempt (wpAny_holding (wpAny_bind (k0.at (wpAny_bind (k1.at ?_))))))))
  show wpAny _ _ (if (onTheHeap (Value.ref D) && Value.builtin "BaseException.__getattribute__" == Value.builtin "object.__getattribute__") = true then _ else _) _ _ _
  rw [own, Bool.and_false, if_neg Bool.false_ne_true]
  unfold getAttrByItsOwn hookBefore
  refine wpAny_bind ?_
  rw [if_pos (show onTheHeap (Value.ref D) = true from rfl)]
  refine k2.at (wpAny_bind (wpAny_attempt (wpAny_holding ?_)))
  unfold callGetattribute
  rw [if_neg (show ¬ ((false && onTheHeap (Value.builtin "BaseException.__getattribute__")) = true) from Bool.false_ne_true)]
  unfold boundAndCalled
  rw [PySem.F.excAttr_ValueError.ga.bind (.ref x)]
  refine wpAny_bind (wpAny_pure ?_)
  show wpAny _ _ (call (.builtin "BaseException.__getattribute__") [.ref x, .str "__class__" t]) _ _ _
  refine wpAny_call (codeAny_call_builtin PySem.F.excAttr_ValueError.ga.plain PySem.F.entry_bexc_ga ?_)
  refine @check_slot (model prog w) _ _ ⟨hp, g, d, t + 1, os⟩ "BaseException.__getattribute__" "BaseException" "__getattribute__" (.ref x) [.str "__class__" t] [] _ (by decide +kernel) (by decide +kernel) sub (PySem.F.args_bexc_ga (.ref x) (.str "__class__" t)) ?_
  unfold Builtin.«object.__getattribute__»
  refine wpAny_bind (wpAny_of_eq (a := ((Value.ref x : Value), [Value.str "__class__" t])) (by first | rfl | (simp only [slotArgs]; rfl)) (wpAny_bind (wpAny_pure (wpAny_bind (k0.at (wpAny_bind (k3.at ?_)))))))
  show wpAny _ _ (holding [Value.builtin "object.__class__"] (call (.builtin "getset_descriptor.__get__") [.builtin "object.__class__", .ref x, .ref D]) >>= ret) _ _ _
  refine wpAny_bind (wpAny_holding (wpAny_call (class_get (s := ⟨hp, g, d, t + 1, os⟩) (ox := ox) (od := od) X I T.hm (wpAny_pure ?_))))
  show wpAny _ _ (handedOut (.ref D)) _ _ _
  rw [handedOut_of (v := .ref D) rfl]
  first
    | exact wpAny_pure (wpAny_pure h)
    | exact wpAny_pure h
    | exact wpAny_pure (wpAny_bind (wpAny_pure (wpAny_pure h)))
theorem kit_exc (T : ExcC K D) : KitX K (.ref x) (.ref D) (fun h => InstAt h x ox D od) where
  ty := fun _ _ _ I => I.type
  it := fun _ _ X _ => by
    obtain ⟨cd, hc, _⟩ := any_some T.hd
    unfold clsIn at hc
    split at hc
    · rename_i ho
      intro A' Q' E' s' k q
      unfold isType loadHead
      exact wpAny_bind (wpAny_loadPart (k _ _ (X _ _ ho)) (wpAny_pure q))
    · cases hc
  ne := fun h tp dd its n sl X htp => by
    obtain ⟨cd, hc, _⟩ := any_some T.hd
    cases e : (Value.ref D == Value.ref tp) with
    | false => rfl
    | true =>
      obtain rfl : D = tp := Value.ref.inj (beq_iff_eq.mp e)
      unfold clsIn at hc
      split at hc
      · rename_i ho
        have z := (X _ _ ho).symm.trans htp
        cases z
      · cases hc
  ca := fun X I k => cls_of_exc T X I k
end
section
variable {X : Cx} {p : Addr × Obj} {D : Addr}
/-- p, an error of the class at D with a dict of its own, is the one handled -/
structure IsErr (p : Addr × Obj) (D d : Addr) : Prop where
  cls : p.2.cls = .ref D
  dict : p.2.dict = some d
  fld : ∃ vs, p.2.data = .fields vs
theorem call_isH {d : Addr} (hm : p ∈ X.pn) (i : IsErr p D d) (T : ExcC X.K D) : CallR X (.builtin "isinstance") (fun xs H Q => (∃ fs, H d = some (.xd fs)) ∧ rIsH X.K D p.1 xs H Q) := by
  intro pins s σ H xs us Q I r h
  obtain ⟨⟨fs, hd⟩, c, cv, b, rfl, k, e, q⟩ := h
  obtain ⟨u1, u2, rfl, r1, r2⟩ := vals2 r
  have e2 := k.eq r2
  subst e2
  cases (show u1 = Value.ref p.1 from r1)
  obtain ⟨get, _⟩ := I.pin p (List.mem_append_left _ hm)
  obtain ⟨vs, hv⟩ := i.fld
  obtain ⟨mA, ⟨o, es, ep, ho, _⟩, _⟩ := (show ObjOk X.prog X.w H s.heap d (.xd fs) from I.hok d _ hd)
  have J : PySem.W.InstAt s.heap p.1 p.2 D (some o) := ⟨get, i.cls, by unfold PySem.W.notCls; rw [hv] <;> rfl, by rw [i.dict]; exact ho⟩
  exact PySem.W.kia_one (kit_exc T) I.kIn J e (fun z => nomatch z) fun tk => ⟨.bl b, H, I.tok tk, rfl, q⟩
/-- n.f, n the handled error, in its own suite -/
theorem pe_xfH {e : Expr} {te : TE} {pos : Pos} {n : Str} {d : Addr} (hm : p ∈ X.pn) (i : IsErr p D d) (T : XfC X.K D) (hno : PySem.W.findIn X.K (.ref D) n = some none) (he : PE X e te) (hb : attributeBase e n X.env (eval e X.env) = eval e X.env := by rfl) :
    PE X (.Attribute e n pos) (fun σ H Q => te σ H fun x H1 => x = .ref p.1 ∧ ∃ (fs : List (Str × V)) (v : V), H1 d = some (.xd fs) ∧ fs.lookup n = some v ∧ Q v H1) := by
  refine ⟨fun pins s σ H Q I h => attr_of hb (thn (he.run pins s σ H _ I h) fun u s1 z => ?_)⟩
  obtain ⟨x, H1, I1, rx, ex, fs, v, ea, l, q⟩ := z
  subst ex
  cases (show u = Value.ref p.1 from rx)
  obtain ⟨get, _⟩ := I1.pin p (List.mem_append_left _ hm)
  obtain ⟨vs, hv⟩ := i.fld
  obtain ⟨mA, hns, hr⟩ := (show ObjOk X.prog X.w H1 s1.heap d (.xd fs) from I1.hok d _ ea)
  obtain ⟨o, ho, hl⟩ := lookIn_ns hns
  obtain ⟨y, hy, ry⟩ := RelO.some_of (v := v) (o := mA n) (by rw [← l]; exact hr n)
  have J : PySem.W.InstAt s1.heap p.1 p.2 D (some o) := ⟨get, i.cls, by unfold PySem.W.notCls; rw [hv] <;> rfl, by rw [i.dict]; exact ho⟩
  exact HandSPX.exc_get I1.kIn J T.ga T.gg T.exC (PySem.W.findObj_own T.hdC hno rfl (by rw [hl, hy])) (handed_of ry) ⟨v, H1, I1.tok _, ry, q⟩
end
end Sk


/-! Deeds, values, a pile: what is asked of them, in plain words. -/
namespace Sk
open PySem PySem.Spec PyProof.Rows L2
abbrev sPush : Str := "push"
abbrev sPop : Str := "pop"
/-- a deed as it is handed in: none, or a text and numbers -/
abbrev Row := Option (Str × List Int)
def rowV : Row → List V
  | none => []
  | some (s, is) => .str s :: is.map V.int
def rowD : Row → List PyData
  | none => []
  | some (s, is) => .str s :: is.map PyData.int
def valB (n : Int) : Bool := decide (0 ≤ n) && decide (n ≤ 99)
def okRow : Row → Bool
  | some (s, []) => decide (s = sPop)
  | some (s, [v]) => decide (s = sPush) && valB v
  | _ => false
def isPop : Row → Bool
  | some (s, []) => s == sPop
  | _ => false
def Lay (r : Row) : Prop := SeqAt.shaped (.tuple (rowD r)) = true
inductive Deed where
  | push (v : Int)
  | pop
def Deed.row : Deed → Row
  | .push v => some (sPush, [v])
  | .pop => some (sPop, [])
def Deed.fit : Deed → Prop
  | .push v => 0 ≤ v ∧ v < 100
  | .pop => True
theorem dpAll_ints {K : PySem.W.Frag} {H : Hp} : ∀ is : List Int, DpAll K H (is.map V.int) (is.map PyData.int)
  | [] => .nil
  | i :: is => .cons (.int i) (dpAll_ints is)
theorem row_dp {K : PySem.W.Frag} {H : Hp} {t : Addr} {r : Row} (h : SqT K H t (rowV r)) : Dp K H (.ref t) (.tuple (rowD r)) := by
  refine .tup h ?_
  cases r with
  | none => exact .nil
  | some p => exact .cons (.str _) (dpAll_ints _)
theorem eqv_pop (r : Row) : PyData.eqv (.tuple (rowD r)) (.tuple [.str sPop]) = isPop r := by
  cases r with
  | none => simp [rowD, PyData.eqv, PyData.eqvAll, isPop]
  | some p =>
    obtain ⟨s, is⟩ := p
    cases is with
    | nil => simp [rowD, PyData.eqv, PyData.eqvAll, isPop]
    | cons a l => simp [rowD, PyData.eqv, PyData.eqvAll, isPop]
theorem push_ne_pop : ¬ (sPush = sPop) := by decide +kernel
theorem isPop_ok {r : Row} (h : isPop r = true) : okRow r = true := by
  cases r with
  | none => cases h
  | some p =>
    obtain ⟨s, is⟩ := p
    cases is with
    | nil =>
      have e : s = sPop := by simpa [isPop] using h
      simp [okRow, e]
    | cons a l => cases h
theorem ok_deed {r : Row} (h : okRow r = true) : ∃ d : Deed, r = d.row ∧ d.fit := by
  cases r with
  | none => cases h
  | some p =>
    obtain ⟨s, is⟩ := p
    cases is with
    | nil =>
      have e : s = sPop := by simpa [okRow] using h
      exact ⟨.pop, by rw [e]; rfl, trivial⟩
    | cons v l =>
      cases l with
      | nil =>
        simp [okRow, valB] at h
        obtain ⟨e, h1, h2⟩ := h
        exact ⟨.push v, by rw [e]; rfl, h1, by omega⟩
      | cons a b => cases h
theorem deed_ok {d : Deed} (h : d.fit) : okRow d.row = true := by
  cases d with
  | push v =>
    obtain ⟨h1, h2⟩ : 0 ≤ v ∧ v < 100 := h
    simp [okRow, Deed.row, valB, h1]
    omega
  | pop => simp [okRow, Deed.row]
theorem deed_lay (d : Deed) : Lay d.row := by
  cases d with
  | push v =>
    show SeqAt.shaped (.tuple [.str sPush, .int v]) = true
    have h1 : PyData.canLay0 (.str sPush) = true := by decide +kernel
    simp [SeqAt.shaped, PyData.canLay0, PyData.canLayAll0, PyData.depth, PyData.depthAll] at h1 ⊢
    exact h1
  | pop => show SeqAt.shaped (.tuple [.str sPop]) = true; decide +kernel
/-! ### one behind another -/
/-- an answer -/
def doneV : V := .str "done"
/-- what a deed answers, and the pile behind it, the lowest first -/
def act (pile : List Int) : Deed → V × List Int
  | .push v => (doneV, pile ++ [v])
  | .pop => match pile.getLast? with
    | none => (.non, pile)
    | some v => (.int v, pile.dropLast)
def acts (pile : List Int) (ds : List Deed) : List V × List Int := ds.foldl (fun s d => (s.1 ++ [(act s.2 d).1], (act s.2 d).2)) ([], pile)
/-- the same from answers that stand already -/
def actsFrom (as : List V) (pile : List Int) (ds : List Deed) : List V × List Int := ds.foldl (fun s d => (s.1 ++ [(act s.2 d).1], (act s.2 d).2)) (as, pile)
theorem acts_take {pile : List Int} {ds : List Deed} {i : Nat} {d : Deed} (h : ds[i]? = some d) :
    acts pile (ds.take (i + 1)) = ((acts pile (ds.take i)).1 ++ [(act (acts pile (ds.take i)).2 d).1], (act (acts pile (ds.take i)).2 d).2) := by
  unfold acts
  rw [show ds.take (i + 1) = ds.take i ++ [d] by
    rw [List.take_add_one, h]
    rfl, List.foldl_append]
  rfl
theorem acts_lenA (pile : List Int) : ∀ ds : List Deed, ∀ as : List V, (actsFrom as pile ds).1.length = as.length + ds.length := by
  intro ds
  induction ds generalizing pile with
  | nil => intro as; simp [actsFrom]
  | cons d ds ih =>
    intro as
    have := ih (act pile d).2 (as ++ [(act pile d).1])
    simp [actsFrom] at this ⊢
    omega
theorem act_len (pile : List Int) (d : Deed) : (act pile d).2.length ≤ pile.length + 1 := by
  cases d with
  | push v => simp [act]
  | pop =>
    unfold act
    cases h : pile.getLast? with
    | none => simp
    | some v => simp; omega
theorem acts_lenP : ∀ (ds : List Deed) (as : List V) (pile : List Int), (actsFrom as pile ds).2.length ≤ pile.length + ds.length
  | [], as, pile => by simp [actsFrom]
  | d :: ds, as, pile => by
    have h := acts_lenP ds (as ++ [(act pile d).1]) (act pile d).2
    have h2 := act_len pile d
    have e : actsFrom as pile (d :: ds) = actsFrom (as ++ [(act pile d).1]) (act pile d).2 ds := rfl
    rw [e, List.length_cons]
    omega
theorem acts_len1 (pile : List Int) (ds : List Deed) : (acts pile ds).1.length = ds.length := by
  have h := acts_lenA pile ds []
  rw [show acts pile ds = actsFrom [] pile ds from rfl, h]
  simp
theorem acts_len2 (pile : List Int) (ds : List Deed) : (acts pile ds).2.length ≤ pile.length + ds.length := acts_lenP ds [] pile
/-- an answer read as data -/
def ansD : V → PyData
  | .int i => .int i
  | .str x => .str x
  | _ => .none
def IsAns (v : V) : Prop := v = doneV ∨ v = .non ∨ ∃ i, v = .int i
theorem ans_dp {K : PySem.W.Frag} {H : Hp} {v : V} (h : IsAns v) : Dp K H v (ansD v) := by
  rcases h with h | h | ⟨i, h⟩ <;> (subst h; constructor)
theorem ans_fit {v : V} (h : IsAns v) (n : Nat) : Fits (n + 1) (ansD v) := by
  rcases h with h | h | ⟨i, h⟩ <;> (subst h; constructor)
theorem act_ans (pile : List Int) (d : Deed) : IsAns (act pile d).1 := by
  cases d with
  | push v => exact .inl rfl
  | pop =>
    unfold act
    cases h : pile.getLast? with
    | none => exact .inr (.inl rfl)
    | some v => exact .inr (.inr ⟨v, rfl⟩)
theorem acts_ansA : ∀ (ds : List Deed) (as : List V) (pile : List Int), (∀ v ∈ as, IsAns v) → ∀ v ∈ (actsFrom as pile ds).1, IsAns v
  | [], as, pile, h => h
  | d :: ds, as, pile, h => by
    have e : actsFrom as pile (d :: ds) = actsFrom (as ++ [(act pile d).1]) (act pile d).2 ds := rfl
    rw [e]
    refine acts_ansA ds _ _ fun v hv => ?_
    rcases List.mem_append.mp hv with q | q
    · exact h v q
    · rw [List.mem_singleton.mp q]
      exact act_ans _ _
theorem acts_ans (pile : List Int) (ds : List Deed) : ∀ v ∈ (acts pile ds).1, IsAns v := acts_ansA ds [] pile (fun v h => by cases h)
theorem anss_dp {K : PySem.W.Frag} {H : Hp} : ∀ {vs : List V}, (∀ v ∈ vs, IsAns v) → DpAll K H vs (vs.map ansD)
  | [], _ => .nil
  | v :: vs, h => .cons (ans_dp (h v List.mem_cons_self)) (anss_dp fun u hu => h u (List.mem_cons_of_mem _ hu))
/-! ### refusals -/
/-- the number of the first that is not so -/
def firstNot {α : Type} (p : α → Bool) : List α → Option Nat
  | [] => none
  | x :: xs => if p x then (firstNot p xs).map (· + 1) else some 0
theorem firstNot_some {α : Type} {p : α → Bool} : ∀ {l : List α} {i : Nat}, firstNot p l = some i → (∃ x, l[i]? = some x ∧ p x = false) ∧ ∀ j, j < i → ∃ x, l[j]? = some x ∧ p x = true
  | [], i, h => by cases h
  | x :: xs, i, h => by
    unfold firstNot at h
    by_cases hp : p x = true
    · rw [if_pos hp] at h
      cases e : firstNot p xs with
      | none => rw [e] at h; cases h
      | some k =>
        rw [e] at h
        have ei : k + 1 = i := Option.some.inj h
        subst ei
        obtain ⟨h1, h2⟩ := firstNot_some e
        refine ⟨by simpa using h1, fun j hj => ?_⟩
        cases j with
        | zero => exact ⟨x, rfl, hp⟩
        | succ j => simpa using h2 j (by omega)
    · rw [if_neg hp] at h
      have ei : 0 = i := Option.some.inj h
      subst ei
      exact ⟨⟨x, rfl, by simpa using hp⟩, fun j hj => absurd hj (Nat.not_lt_zero _)⟩
theorem firstNot_none {α : Type} {p : α → Bool} : ∀ {l : List α}, firstNot p l = none → ∀ x ∈ l, p x = true
  | [], _, x, hx => by cases hx
  | y :: ys, h, x, hx => by
    unfold firstNot at h
    by_cases hp : p y = true
    · rw [if_pos hp] at h
      have e : firstNot p ys = none := by
        cases e : firstNot p ys with
        | none => rfl
        | some k => rw [e] at h; cases h
      rcases List.mem_cons.mp hx with q | q
      · rw [q]; exact hp
      · exact firstNot_none e x q
    · rw [if_neg hp] at h
      cases h
theorem firstNot_of {α : Type} {p : α → Bool} : ∀ {l : List α} {i : Nat} {x : α}, l[i]? = some x → p x = false → (∀ j, j < i → ∀ y, l[j]? = some y → p y = true) → firstNot p l = some i
  | [], i, x, h, _, _ => by simp at h
  | y :: ys, 0, x, h, hp, _ => by
    have e : y = x := Option.some.inj h
    subst e
    unfold firstNot
    rw [if_neg (by rw [hp]; exact Bool.false_ne_true)]
  | y :: ys, i + 1, x, h, hp, k => by
    unfold firstNot
    have hy : p y = true := k 0 (Nat.succ_pos i) y rfl
    have e : firstNot p ys = some i := firstNot_of (x := x) (by simpa using h) hp fun j hj z hz => k (j + 1) (Nat.succ_lt_succ hj) z (by simpa using hz)
    rw [if_pos hy, e]
    rfl
theorem firstNot_all {α : Type} {p : α → Bool} : ∀ {l : List α}, (∀ x ∈ l, p x = true) → firstNot p l = none
  | [], _ => rfl
  | y :: ys, h => by
    unfold firstNot
    rw [if_pos (h y List.mem_cons_self), firstNot_all fun x hx => h x (List.mem_cons_of_mem _ hx)]
    rfl
/-- a list of deeds' tuples -/
def Rows (K : PySem.W.Frag) (H : Hp) (ts : List Addr) (rs : List Row) : Prop := Paired (fun t r => SqT K H t (rowV r)) ts rs
theorem Rows.len {K : PySem.W.Frag} {H : Hp} {ts : List Addr} {rs : List Row} (h : Rows K H ts rs) : ts.length = rs.length := Paired.length h
theorem Rows.at_ {K : PySem.W.Frag} {H : Hp} : ∀ {ts : List Addr} {rs : List Row} {i : Nat} {t : Addr}, Rows K H ts rs → ts[i]? = some t → ∃ r, rs[i]? = some r ∧ SqT K H t (rowV r)
  | _, _, i, t, .nil, e => by simp at e
  | _, _, 0, t, .cons h _, e => by
    have q := Option.some.inj e
    subst q
    exact ⟨_, rfl, h⟩
  | _, _, i + 1, t, .cons _ hs, e => by
    obtain ⟨r, q1, q2⟩ := Rows.at_ (i := i) (t := t) hs (by simpa using e)
    exact ⟨r, by simpa using q1, q2⟩
theorem Rows.mono {K : PySem.W.Frag} {H H' : Hp} (k : ∀ t xs, SqT K H t xs → SqT K H' t xs) : ∀ {ts : List Addr} {rs : List Row}, Rows K H ts rs → Rows K H' ts rs
  | _, _, .nil => .nil
  | _, _, .cons h hs => .cons (k _ _ h) (Rows.mono k hs)
theorem Rows.append {K : PySem.W.Frag} {H : Hp} : ∀ {ts us : List Addr} {rs qs : List Row}, Rows K H ts rs → Rows K H us qs → Rows K H (ts ++ us) (rs ++ qs)
  | _, _, _, _, .nil, h => h
  | _, _, _, _, .cons a b, h => .cons a (Rows.append b h)
theorem Rows.take {K : PySem.W.Frag} {H : Hp} (n : Nat) : ∀ {ts : List Addr} {rs : List Row}, Rows K H ts rs → Rows K H (ts.take n) (rs.take n) := by
  induction n with
  | zero => intro ts rs h; exact .nil
  | succ n ih =>
    intro ts rs h
    cases h with
    | nil => exact .nil
    | cons a b => exact .cons a (ih b)
theorem Rows.drop {K : PySem.W.Frag} {H : Hp} (n : Nat) : ∀ {ts : List Addr} {rs : List Row}, Rows K H ts rs → Rows K H (ts.drop n) (rs.drop n) := by
  induction n with
  | zero => intro ts rs h; exact h
  | succ n ih =>
    intro ts rs h
    cases h with
    | nil => exact .nil
    | cons a b => exact ih b
theorem Rows.dp {K : PySem.W.Frag} {H : Hp} : ∀ {ts : List Addr} {rs : List Row}, Rows K H ts rs → DpAll K H (ts.map V.ref) (rs.map fun r => PyData.tuple (rowD r))
  | _, _, .nil => .nil
  | _, _, .cons a b => .cons (row_dp a) (Rows.dp b)
end Sk


namespace Sk
open PySem PySem.Spec PyProof.Rows L2
/-- a tuple stands where a list is stored to -/
theorem sqt_upd {K : PySem.W.Frag} {H : Hp} {D t : Addr} {xs : List V} {l : List V} {o : HO} (e : H D = some (.lst l)) (h : SqT K H t xs) : SqT K (upd H D o) t xs := by
  rcases h with (h | ⟨u, h⟩) | h
  · exact .inl (.inl (by rw [upd_ne (ne_of h e (by intro z; cases z))]; exact h))
  · exact .inl (.inr ⟨u, by rw [upd_ne (ne_of h e (by intro z; cases z))]; exact h⟩)
  · exact .inr h
theorem sqt_but {K : PySem.W.Frag} {H H' : Hp} {p t : Addr} {xs l : List V} (b : But p H H') (e : H p = some (.lst l)) (h : SqT K H t xs) : SqT K H' t xs := by
  rcases h with (h | ⟨u, h⟩) | h
  · exact .inl (.inl (b _ _ (ne_of h e (by intro z; cases z)) h))
  · exact .inl (.inr ⟨u, b _ _ (ne_of h e (by intro z; cases z)) h⟩)
  · exact .inr h
theorem lay_ints : ∀ ns : List Int, PyData.canLayAll0 (ns.map PyData.int) = true ∧ PyData.depthAll (ns.map PyData.int) ≤ 1
  | [] => ⟨rfl, by simp [PyData.depthAll]⟩
  | n :: ns => by
    obtain ⟨h1, h2⟩ := lay_ints ns
    refine ⟨by simp [PyData.canLayAll0, PyData.canLay0, h1], ?_⟩
    simp [PyData.depthAll, PyData.depth] at h2 ⊢
    omega
theorem shaped_ints (ns : List Int) : SeqAt.shaped (.list (ns.map PyData.int)) = true := by
  obtain ⟨h1, h2⟩ := lay_ints ns
  simp [SeqAt.shaped, PyData.canLay0, PyData.depth, h1]
  omega
theorem eqv_nil (ns : List Int) : PyData.eqv (.list (ns.map PyData.int)) (.list []) = ns.isEmpty := by
  cases ns <;> simp [PyData.eqv, PyData.eqvAll]
end Sk
/-! xs[::k], k one or minus one, told by an expression. -/
namespace Sk
open PySem PySem.Spec PyProof.Rows L2
/-- the list itself, or backwards -/
def wayV (xs : List V) (k : Int) : List V := if k = 1 then xs else xs.reverse
def tWay (K : PySem.W.Frag) (te tk : TE) : TE := fun σ H Q => te σ H fun x H1 => tPart tk σ H1 fun o H2 => ∃ (a : Addr) (xs : List V) (k : Int), x = .ref a ∧ o = some k ∧ (k = 1 ∨ k = -1) ∧ SqL K H2 a xs ∧ ∀ l, H2 l = none → Q (.ref l) (upd H2 l (.lst (wayV xs k)))
theorem pick_one (its : List Value) : slicePick its.toArray none none (some 1) = its.toArray := by
  have e : slicePick its.toArray none none (some 1) = slicePick its.toArray none none none := rfl
  rw [e, slicePick_cut, HT.sIx_none, HT.sIx_none]
  simp
theorem pick_way (its : List Value) {k : Int} (h : k = 1 ∨ k = -1) : slicePick its.toArray none none (some k) = (if k = 1 then its else its.reverse).toArray := by
  rcases h with rfl | rfl
  · rw [pick_one, if_pos rfl]
  · rw [PySem.W.krv_pick, if_neg (by decide)]
theorem vals_way {xs : List V} {its : List Value} (r : Vals xs its) (k : Int) : Vals (wayV xs k) (if k = 1 then its else its.reverse) := by
  unfold wayV
  by_cases h : k = 1
  · rw [if_pos h, if_pos h]
    exact r
  · rw [if_neg h, if_neg h]
    exact r.reverse
theorem pe_way {X : Cx} {e ek : Expr} {te tk : TE} {p2 p3 : Pos} (he : PE X e te) (hk : PE X ek tk) : PE X (.Subscript e (.Slice none none (some ek) p2) p3) (tWay X.K te tk) := by
  refine ⟨fun pins sa σ Ha Q Ia hh => ?_⟩
  refine Subscript_ (thn (he.run pins sa σ Ha _ Ia hh) fun v sb ⟨x, Hb, Ib, rx, qx⟩ => ?_)
  refine wpAny_Slice (thn (po_none.run pins sb σ Hb (fun o Hc => o = none ∧ Hc = Hb) Ib ⟨rfl, rfl⟩) fun vl sc ⟨l, Hc, Ic, pl, el, ec⟩ => ?_)
  subst el ec
  refine thn (po_none.run pins sc σ Hc (fun o Hd => o = none ∧ Hd = Hc) Ic ⟨rfl, rfl⟩) fun vu sd ⟨u, Hd, Id, pu, eu, ed⟩ => ?_
  subst eu ed
  refine thn ((po_some hk).run pins sd σ Hd _ Id qx) fun vk sf ⟨o, Hf, If, pk, a, xs, k, ex, eo, k1, hx, q⟩ => ?_
  subst ex eo
  cases rx
  have Ih : Inv X pins σ Hf { sf with heap := sf.heap.push { cls := .type "slice", data := .fields #[vl, vu, vk] } } := If.kept (t' := sf.toks) fun b ob z => Heap.get?_push_of_some _ z
  obtain ⟨its, rr, ht, hz⟩ := Ih.list hx
  have hlen := rr.length
  show wpAny (model X.prog X.w) X.A (subscriptTail e (.Slice none none (some ek) p2) (.ref a) (.ref sf.heap.objs.size)) (EP X pins σ Q) X.xe { sf with heap := sf.heap.push { cls := .type "slice", data := .fields #[vl, vu, vk] } }
  refine tail_any (ops := [.ref a, .ref sf.heap.objs.size]) ht.isList.typeIs (PySem.slot_list_getitem.lookup) ?_ (by with_unfolding_all rfl)
  refine wpAny_getItem_list_slice ht.isList (Heap.IsSliceOf.new _ vl vu vk) pl pu pk (by rcases k1 with rfl | rfl <;> decide) ?_ (by rw [List.size_toArray]; omega)
  rw [pick_way its k1]
  refine ⟨.ref _, _, Ih.laid (t' := sf.toks) (o := .lst (wayV xs k)) (fun b ob z => Heap.get?_push_of_some _ z) (Nat.le_refl _) ?_, rfl, q _ (Ih.hok.fresh (Nat.le_refl _))⟩
  refine ⟨?_, _, 0, vals_way rr k, Heap.get?_push_size _ rfl⟩
  unfold wayV
  split
  · exact hz
  · rw [List.length_reverse]
    exact hz
end Sk


namespace Sk
open PySem PySem.Spec PyProof.Rows L2
/-- built-in names that the module does not bind -/
structure TxB (mg : Str → Option Value) : Prop where
  len : mg "len" = none
  int : mg "int" = none
  isinstance : mg "isinstance" = none
  bool : mg "bool" = none
  str : mg "str" = none
  dict : mg "dict" = none
  tuple : mg "tuple" = none
  list : mg "list" = none
  range : mg "range" = none
  enumerate : mg "enumerate" = none
  ValueError : mg "ValueError" = none
  sum : mg "sum" = none
  sorted : mg "sorted" = none
  min : mg "min" = none
  max : mg "max" = none
abbrev vN (ns : List Nat) : List V := ns.map fun n : Nat => V.int n
end Sk


/-! enumerate over a tuple; a tuple times one; statements that are never reached. -/
namespace Sk
open PySem PySem.Spec PyProof.Rows L2
/-- an int of the module -/
def IntG (mg : Str → Option Value) (x : Str) (n : Int) : Prop := ∃ t, mg x = some (.int n t)
section
variable {X : Cx}
theorem pe_num {x : Str} {n : Int} {pos : Pos} (hg : Gl X x) (h : IntG X.mg x n) (hd : (x == ("__debug__" : Str)) = false := by decide) : PE X (.Name x pos) (tC (.int n)) := by
  obtain ⟨t, e⟩ := h
  exact pe_glob (v := .int n) hg e ⟨t, rfl⟩ hd
/-- a statement that is never reached -/
theorem ps_no {st : Stmt} : PS X st (fun _ _ _ => False) := ⟨fun _ _ _ _ _ _ z => z.elim⟩
/-- an item of a list or a tuple -/
def rIxA (K : PySem.W.Frag) : R2 := fun x y H Q => ∃ (p : Addr) (xs : List V) (i : Int) (v : V), x = .ref p ∧ y = .int i ∧ (SqL K H p xs ∨ SqT K H p xs) ∧ atI xs i = some v ∧ Q v H
theorem ix_any : IxR X (rIxA X.K) := by
  intro ea eb pins s σ H x y v u Q I rx ry h es
  obtain ⟨p, xs, i, z, e1, e2, hs | hs, e3, q⟩ := h
  · exact ix_list ea eb pins s σ H x y v u Q I rx ry ⟨p, xs, i, z, e1, e2, hs, e3, q⟩ es
  · exact ix_tup ea eb pins s σ H x y v u Q I rx ry ⟨p, xs, i, z, e1, e2, hs, e3, q⟩ es
end
/-! ### enumerate over a tuple -/
theorem enumT_new (a : Addr) (us : Array Value) (m : Nat) (od : Option Addr) (ol : Array (Option Value)) :
    Meets (Builtin.«enumerate.__new__» ⟨[.type "enumerate", .ref a], []⟩) (fun _ R s => s.heap.get? a = some ⟨.type "tuple", od, .seq us m, ol⟩ ∧
      R (.ok (.ret (.ref (s.heap.push { cls := .type "tuple_iterator", data := .fields #[.ref a, .int 0 0] }).objs.size)))
        { s with heap := (s.heap.push { cls := .type "tuple_iterator", data := .fields #[.ref a, .int 0 0] }).push { cls := .type "enumerate", data := .fields #[.none, .bool false, .ref s.heap.objs.size, rawInt 0, .none, .none] } }) := by
  refine .of_wp fun P w A R st z => ?_
  obtain ⟨h0, g0, d0, t0, o0⟩ := st
  obtain ⟨e0, z⟩ := z
  have sub := sub_enumerate
  have isT : Heap.IsTuple (Shared.heap ⟨h0, g0, d0, t0, o0⟩) a us := ⟨_, e0, rfl, m, rfl⟩
  wp_walk using AutoSeq1.wpAny_loadPart' e0
  refine wpAny_stack_any fun z9 => wpAny_pure ?_
  split
  · rename_i cc _ _ _ _ _
    cases (cc == Value.type "enumerate")
    all_goals
      wp_walk using AutoSeq1.wpAny_loadPart' e0, wpAny_pyIter_tuple isT
      exact ⟨_, rfl, z⟩
  · wp_walk using AutoSeq1.wpAny_loadPart' e0, wpAny_pyIter_tuple isT
    exact ⟨_, rfl, z⟩
section
variable {P : Program} {w : World} {A : Around} {E : Value → Shared → Prop} {s : Shared}
theorem enumT_call {a : Addr} {us : Array Value} {Q : Value → Shared → Prop} (ha : s.heap.IsTuple a us)
    (k : ∀ h1, IsEnum h1 (s.heap.objs.size + 1) s.heap.objs.size 0 .none → h1.IsTupleIter s.heap.objs.size a 0 → h1.objs.size = s.heap.objs.size + 2 → (∀ b o, s.heap.get? b = some o → h1.get? b = some o) → Q (.ref (s.heap.objs.size + 1)) { s with heap := h1 }) :
    wpAny (model P w) A (call (.type "enumerate") [.ref a]) Q E s := by
  obtain ⟨⟨c, od, dt, ol⟩, e0, ec, m, ed⟩ := ha
  have ec : c = .type "tuple" := ec
  have ed : dt = .seq us m := ed
  subst ec ed
  refine callType_new F.called_enumerate (by decide) (F.typeCall_enumerate_1 _) (F.newCall_enumerate_1 _) (fun b => F.args_object_init_2 b _) F.entry_enumerate_new (enumT_new a us m od ol) ⟨e0, ?_⟩
  have n1 : (s.heap.push { cls := .type "tuple_iterator", data := .fields #[.ref a, .int 0 0] }).objs.size = s.heap.objs.size + 1 := Heap.size_push ..
  have it : IsEnum ((s.heap.push { cls := .type "tuple_iterator", data := .fields #[.ref a, .int 0 0] }).push { cls := .type "enumerate", data := .fields #[.none, .bool false, .ref s.heap.objs.size, rawInt 0, .none, .none] }) (s.heap.objs.size + 1) s.heap.objs.size 0 .none := by
    have z := Heap.get?_push_size (s.heap.push { cls := .type "tuple_iterator", data := .fields #[.ref a, .int 0 0] }) (o := { cls := .type "enumerate", data := .fields #[.none, .bool false, .ref s.heap.objs.size, rawInt 0, .none, .none] }) rfl
    rw [n1] at z
    exact z
  show _ ∧ _
  rw [n1]
  exact ⟨⟨_, it, rfl⟩, k _ it ⟨_, Heap.get?_push_of_some _ (Heap.get?_push_size _ rfl), rfl, rfl⟩ (by rw [Heap.size_push, n1]) fun b o q => Heap.get?_push_of_some _ (Heap.get?_push_of_some _ q)⟩
end
/-- the tuple at a as it stands at each turn, each item in a new pair -/
def IteT (K : PySem.W.Frag) (a : Addr) : It :=
  ⟨fun i H => ∃ (xs : List V) (x : V), SqT K H a xs ∧ xs[i]? = some x, fun i H v H' => ∃ T x, v = .ref T ∧ H T = none ∧ H' = upd H T (.tup [.int (i : Nat), x]) ∧ ∀ xs, SqT K H a xs → xs[i]? = some x, fun i H => ∃ xs : List V, SqT K H a xs ∧ xs.length = i⟩
theorem turn_enumT {P : Program} {w : World} {K : PySem.W.Frag} {es : List Expr} {kk : Nat} {tp : Pos} (a e it : Addr) :
    Turn P w K (.Tuple es kk tp) (IteT K a) [e, it] e (fun i h => (∃ old, IsEnum h e it ((i : Nat) : Int) old) ∧ h.IsTupleIter it a i ∧ e ≠ it ∧ a ≠ it) where
  mem := by simp
  obj := fun i h st b hb => by
    obtain ⟨⟨old, he⟩, ⟨o, ho, hc, hd⟩, _⟩ := st
    rcases (by simpa using hb : b = e ∨ b = it) with q | q
    · rw [q]; exact ⟨_, he, fun v z => nomatch z⟩
    · rw [q]; exact ⟨o, ho, fun v z => by rw [hd] at z; cases z⟩
  keep := fun i h h' st k => by
    obtain ⟨⟨old, he⟩, hi, ne⟩ := st
    exact ⟨⟨old, k e (by simp) _ he⟩, hi.at fun o z => k it (by simp) o z, ne⟩
  item := by
    intro X hP hw hK hc i pins s σ H E I hf st hg
    subst hP hw hK
    obtain ⟨⟨old, he⟩, hit, n1, n2⟩ := st
    obtain ⟨xs, x, hq, hx⟩ := hg
    obtain ⟨its, rv, isT, hz⟩ := I.tuple hq
    obtain ⟨u, hu, ru⟩ := rv.get hx
    have le : e < s.heap.objs.size := Heap.lt_size he
    have li : it < s.heap.objs.size := by obtain ⟨_, z, _⟩ := hit; exact Heap.lt_size z
    have ea : e ≠ a := fun q => by
      obtain ⟨o, ho, hcl, _⟩ := isT
      rw [← q, he] at ho
      have ho := Option.some.inj ho
      subst ho
      injection hcl with hcl
      exact absurd hcl (by decide)
    have hlt : i < its.toArray.size := by
      have := (List.getElem?_eq_some_iff.mp hu).1
      simpa using this
    refine wpAny_pyNext_enum_itemD (Draws.tuple (show X.A.in1.handled = none from I.ok.hd hc) it a n2 its.toArray) he ⟨hit, isT⟩ hlt n1 (by simp [n1, ea]) fun u2 h1 tk hP ho st1 hT hsz hk => ?_
    have eu : u2 = u := by
      have z : its.toArray[i]? = some u2 := hP
      rw [List.getElem?_toArray, hu] at z
      exact (Option.some.inj z).symm
    subst eu
    refine ⟨_, rfl, wpAny_letOwnedTupleGo_enum (s := { s with heap := h1, toks := tk + 1 }) ho fun h2 he2 sb => ?_⟩
    have hT2 : h2.get? s.heap.objs.size = some { cls := .type "tuple", data := .seq #[.int i tk, u2] } := (sb.2 _ (Nat.ne_of_gt le)).trans hT
    have new : ObjOk X.prog X.w (upd H s.heap.objs.size (.tup [.int (i : Nat), x])) h2 s.heap.objs.size (.tup [.int (i : Nat), x]) := ⟨by show 2 ≤ sizeLine; decide, [.int i tk, u2], .cons ⟨tk, rfl⟩ (.cons ru .nil), ⟨_, hT2, rfl, _, rfl⟩⟩
    have I1 : L2.Inv X pins σ (upd H s.heap.objs.size (.tup [.int (i : Nat), x])) { s with heap := h2, toks := tk + 1 } := by
      refine I.turnedNew (ch := [e, it]) (fun b ob hb q => ?_) hf (Nat.le_refl _) new
      have b1 : b ≠ e := fun z => hb (by simp [z])
      have b2 : b ≠ it := fun z => hb (by simp [z])
      exact (sb.2 b b1).trans (hk b ob b1 b2 q)
    refine ⟨.ref s.heap.objs.size, _, I1, rfl, ⟨_, x, rfl, I.hok.fresh (Nat.le_refl _), rfl, fun ys hy => by rw [I.tuple_inj hy hq]; exact hx⟩, ⟨⟨u2, ?_⟩, st1.1.at fun o q => (sb.2 it (Ne.symm n1)).trans q, n1, n2⟩, fun b hb => ?_⟩
    · have e1 : ((i + 1 : Nat) : Int) = (i : Int) + 1 := Int.natCast_add i 1
      rw [e1]
      simpa using he2
    · have lb : b < s.heap.objs.size := by
        rcases (by simpa using hb : b = e ∨ b = it) with q | q
        · rw [q]; exact le
        · rw [q]; exact li
      rw [upd_ne (Nat.ne_of_lt lb)]
      exact (hf b hb).1
  done := by
    intro X hP hw hK hc i pins s σ H E I hf st hg
    subst hP hw hK
    obtain ⟨⟨old, he⟩, hit, n1, n2⟩ := st
    obtain ⟨xs, hq, hx⟩ := hg
    obtain ⟨its, rv, isT, hz⟩ := I.tuple hq
    obtain ⟨f0, f1, f2, f3, f4, f5⟩ := hf it (by simp)
    have ln : its.toArray.size = i := by
      have := rv.length
      simp
      omega
    have end1 : s.heap.IsTupleIter it a its.toArray.size := by rw [ln]; exact hit
    exact wpAny_pyNext_enum_endD (Draws.tuple (show X.A.in1.handled = none from I.ok.hd hc) it a n2 its.toArray) he ⟨end1, isT⟩ fun h1 eb => ⟨rfl, I.turned (t' := s.toks) (fun b o hb q => eb b o hb q) f0 f1 f3 f4 f5⟩
  self := fun A i s Q E st h => by
    obtain ⟨⟨_, he⟩, _⟩ := st
    exact wpAny_pyIter_enum he h
def iEnumT (K : PySem.W.Frag) (ta : TA) : TI := fun σ H R => ta σ H fun vs H1 => ∃ a xs, vs = [.ref a] ∧ SqT K H1 a xs ∧ R (IteT K a) H1
theorem pi_enumT {X : Cx} {e : Expr} {ta : TA} {p pos tp : Pos} {es : List Expr} {kk : Nat} (hg : Gl X "enumerate") (hm : X.mg "enumerate" = none) (ha : PA X [e] ta) (hs : starEach [e] X.env = [(false, eval e X.env)] := by rfl) :
    PI X (.Tuple es kk tp) (.Call (.Name "enumerate" p) [e] [] pos) (iEnumT X.K ta) := by
  refine ⟨fun pins s σ H R I h => ?_⟩
  refine Call_ (ld_blt I hg hm boot_enumerate (PyProof.Rows.callWith_type1 (thn (ha.run pos pins s σ H _ I h) fun us s1 z => ?_) hs rfl))
  obtain ⟨vs, H1, I1, r1, a, xs, ex, hq, q⟩ := z
  subst ex
  cases r1 with
  | cons r rr =>
    cases rr
    cases r
    obtain ⟨its, rv, isT, hz⟩ := I1.tuple hq
    have la : a < s1.heap.objs.size := by obtain ⟨o, ho, _⟩ := isT; exact Heap.lt_size ho
    refine enumT_call (show s1.heap.IsTuple a its.toArray from isT) fun h1 he hit hsz hk => wpAny_pyIter_enum he ?_
    have I2 : L2.Inv X pins σ H1 { s1 with heap := h1 } := I1.kept (t' := s1.toks) hk
    refine ⟨s1.heap.objs.size + 1, [s1.heap.objs.size + 1, s1.heap.objs.size], _, _, H1, rfl, I2, turn_enumT a (s1.heap.objs.size + 1) s1.heap.objs.size, ⟨⟨.none, he⟩, hit, Nat.succ_ne_self _, Nat.ne_of_lt la⟩, fun b hb => ?_, q⟩
    have lb : s1.heap.objs.size ≤ b := by
      rcases (by simpa using hb : b = s1.heap.objs.size + 1 ∨ b = s1.heap.objs.size) with z | z
      · rw [z]; exact Nat.le_succ _
      · rw [z]; exact Nat.le_refl _
    exact I1.fpOk lb (I1.hok.fresh lb)
theorem walk_enumT {K : PySem.W.Frag} {a : Addr} {xs : List V} : L2.Walk (IteT K a) xs.length (fun H => SqT K H a xs) (YPair (fun i => some (.int (i : Nat))) (fun i => xs[i]?)) := by
  refine ⟨fun i _ hi q => ⟨xs, xs[i], q, List.getElem?_eq_getElem hi⟩, fun _ q => ⟨xs, q, rfl⟩, fun i H v H' _ q y => ?_⟩
  obtain ⟨T, x, h1, h2, h3, h4⟩ := y
  exact ⟨T, .int (i : Nat), x, h1, h2, h3, rfl, h4 xs q⟩
/-! ### a tuple once -/
theorem tup_once (a : Addr) (us : Array Value) (m : Nat) (od : Option Addr) (ol : Array (Option Value)) (u : Tok) :
    Meets (Builtin.«tuple.__mul__» ⟨[.ref a, .int 1 u], []⟩) (fun _ R s => s.heap.get? a = some ⟨.type "tuple", od, .seq us m, ol⟩ ∧ R (.ok (.ret (Value.ref a))) s) := by
  refine .of_wp fun P w A R st z => ?_
  obtain ⟨h0, g0, d0, t0, o0⟩ := st
  obtain ⟨e0, z⟩ := z
  have f1 := AutoSeq1.idx_int
  have c1 : (us.isEmpty || (1 : Int) == 1) = true := by simp
  wp_walk using AutoSeq1.wpAny_loadPart' e0
  all_goals (repeat (first
    | (refine wpAny_ite_true c1 ?_; wp_walk using AutoSeq1.wpAny_loadPart' e0)
    | (refine wpAny_ite_false (decide_eq_false (by decide)) ?_; wp_walk using AutoSeq1.wpAny_loadPart' e0)))
  all_goals exact ⟨_, rfl, z⟩
/-- a tuple, a number of times from one on -/
def rRepA (K : PySem.W.Frag) : R2 := fun x y H Q => ∃ l k xs, x = .ref l ∧ y = .int k ∧ SqT K H l xs ∧ xs ≠ [] ∧ 1 ≤ k ∧ k ≤ 1000 ∧ xs.length ≤ 1000 ∧ (k = 1 → Q (.ref l) H) ∧ (2 ≤ k → ∀ p, H p = none → Q (.ref p) (upd H p (.tup (List.replicate k.toNat xs).flatten)))
theorem op_repA {X : Cx} : OpR X (binaryOp .Mult) (rRepA X.K) := by
  intro pins s σ H x y v u Q I rx ry h
  obtain ⟨l, k, xs, ex, ey, hT, hne, h1, h2, hz, q1, q2⟩ := h
  by_cases one : k = 1
  · subst ex ey one
    cases rx
    obtain ⟨t, rfl⟩ := ry
    obtain ⟨its, r, ⟨⟨c, od, dt, ol⟩, ho, hc, m, hd⟩, hs⟩ := I.tuple hT
    simp only at hc hd
    subst hc hd
    refine wpAny_binaryOp_repeat_ref (T := "tuple") (U := "int") (by decide) ⟨_, ho, rfl⟩ (fun s' => typeIs_int s' 1 t) noFill_tuple_mul F.fills_int_mul F.slot_int_rmul repeat_tuple F.slot_int_index.lookup
      (call_meets F.slot_int_rmul (typeIs_int s 1 t) F.entry_int_rmul (F.args_int_rmul_2 _ _) (int_rmul_tuple 1 t l its.toArray m od ol) ⟨ho, rfl, ⟨_, ho, rfl⟩, call_meets F.slot_tuple_mul ⟨_, ho, rfl⟩ F.entry_tuple_mul (F.args_tuple_mul_2 _ _) (tup_once l its.toArray m od ol t) ⟨ho, ?_⟩⟩)
    exact ⟨.ref l, _, I, rfl, q1 rfl⟩
  · exact op_repT pins s σ H x y v u Q I rx ry ⟨l, k, xs, ex, ey, hT, hne, by omega, h2, hz, q2 (by omega)⟩
end Sk


/-! The machine of the document, in plain words. -/
namespace Sk
open PySem PySem.Spec PyProof.Rows L2
inductive Rule where
  | counts (m : Nat)
  | marks (hs : List Nat)
  | keeps
/-- what a step does -/
inductive Stp where
  | rests
  | takes (c : Nat)
  | reads (c : Nat)
  | ends (a : V)
  | links (c : Nat)
  | marks (c : Nat)
  | looks (b : Bool)
  | follows (c : Nat)
  | exchanges (c : Nat)
  | misses
/-- a hand: its deeds, how many are done, its cell, what it read, the next that it follows, its mark, whether it looked, what it answered -/
structure Hand where
  deeds : List Deed
  at_ : Nat
  cell : Nat
  seen : Option (Nat × Nat)
  follow : Option Nat
  mark : Nat
  looked : Bool
  said : List V
structure Mach where
  vals : List Int
  links : List Nat
  top : Nat
  count : Nat
  free : List Nat
  ends : List (Nat × Nat)
  stale : Bool
  hands : List Hand
def Hand.again (h : Hand) : Hand := { h with seen := none, follow := none, looked := false }
def Hand.did (h : Hand) (a : V) : Hand := { h with said := h.said ++ [a], at_ := h.at_ + 1, cell := 0, mark := 0, seen := none, follow := none, looked := false }
def Hand.new (ds : List Deed) : Hand := ⟨ds, 0, 0, none, none, 0, false, []⟩
def Mach.begun (xs : List Int) (ps : List (List Deed)) : Mach := ⟨xs, List.range xs.length, xs.length, 0, [], [], false, ps.map Hand.new⟩
def Mach.put (s : Mach) (i : Nat) (h : Hand) : Mach := { s with hands := s.hands.set i h }
/-- the free cell that a push takes -/
def pick (r : Rule) (s : Mach) : Option Nat := match r with
  | .keeps => none
  | _ => s.free.find? fun c => !((s.hands.map Hand.mark).contains c)
def bump (r : Rule) (n : Nat) : Nat := match r with
  | .counts m => (n + 1) % m
  | _ => n
/-- the hand must mark what it reads -/
def mustMark (r : Rule) (i : Nat) : Bool := match r with
  | .marks hs => hs.contains i
  | _ => false
def linkAt (ls : List Nat) (c : Nat) : Nat := ls.getD (c - 1) 0
def valAt (vs : List Int) (c : Nat) : Int := vs.getD (c - 1) 0
/-- a step of hand i, h as it stands -/
def go (r : Rule) (s : Mach) (i : Nat) (h : Hand) : Stp × Mach :=
  match h.deeds[h.at_]? with
  | none => (.rests, s)
  | some (.push v) =>
    if h.cell = 0 then
      match pick r s with
      | none => (.takes (s.vals.length + 1), { s with vals := s.vals ++ [v], links := s.links ++ [0], hands := s.hands.set i { h with cell := s.vals.length + 1 } })
      | some c => (.takes c, { s with vals := s.vals.set (c - 1) v, free := s.free.erase c, hands := s.hands.set i { h with cell := c } })
    else match h.seen with
      | none => (.reads s.top, s.put i { h with seen := some (s.top, s.count) })
      | some (t, k) => match h.follow with
        | none => (.links t, { s with links := s.links.set (h.cell - 1) t, hands := s.hands.set i { h with follow := some t } })
        | some _ => if s.top = t ∧ s.count = k then (.ends (.str "done"), { s with top := h.cell, count := bump r s.count, ends := s.ends ++ [(i, h.at_)], hands := s.hands.set i (h.did (.str "done")) }) else (.misses, s.put i h.again)
  | some .pop =>
    match h.seen with
    | none => if s.top = 0 then (.ends .non, { s with ends := s.ends ++ [(i, h.at_)], hands := s.hands.set i (h.did .non) }) else (.reads s.top, s.put i { h with seen := some (s.top, s.count) })
    | some (t, k) =>
      if 0 < h.cell then (.ends (.int (valAt s.vals h.cell)), { s with free := s.free ++ [h.cell], hands := s.hands.set i (h.did (.int (valAt s.vals h.cell))) })
      else if mustMark r i = true ∧ h.looked = false then
        if h.mark ≠ t then (.marks t, s.put i { h with mark := t })
        else if s.top = t then (.looks true, s.put i { h with looked := true })
        else (.looks false, s.put i { h with looked := false }.again)
      else match h.follow with
        | none => (.follows (linkAt s.links t), s.put i { h with follow := some (linkAt s.links t) })
        | some f => if s.top = t ∧ s.count = k then (.exchanges f, { s with top := f, count := bump r s.count, ends := s.ends ++ [(i, h.at_)], stale := s.stale || (linkAt s.links t != f), hands := s.hands.set i { h with cell := t } }) else (.misses, s.put i h.again)
/-- a step of hand i -/
def turn (r : Rule) (s : Mach) (i : Nat) : Stp × Mach := match s.hands[i]? with
  | none => (.rests, s)
  | some h => go r s i h
/-- a weaving's steps, and where it comes to -/
def play (r : Rule) : Mach → List Nat → List Stp × Mach
  | s, [] => ([], s)
  | s, i :: w => ((turn r s i).1 :: (play r (turn r s i).2 w).1, (play r (turn r s i).2 w).2)
/-- the cells from t on, each the next of the one ahead, as far as none comes again -/
def pileFrom (ls : List Nat) : Nat → List Nat → Nat → List Nat
  | 0, acc, _ => acc
  | n + 1, acc, t => if t = 0 ∨ t ∈ acc then acc else pileFrom ls n (acc ++ [t]) (linkAt ls t)
def Mach.pile (s : Mach) : List Nat := pileFrom s.links (s.links.length + 1) [] s.top
def Mach.done (s : Mach) : Bool := s.hands.all fun h => decide (h.deeds.length ≤ h.at_)
/-! ### each step's kind -/
inductive Go (r : Rule) (s : Mach) (i : Nat) (h : Hand) : Stp → Mach → Prop
  | rests : h.deeds[h.at_]? = none → Go r s i h .rests s
  | takesNew (v : Int) : h.deeds[h.at_]? = some (.push v) → h.cell = 0 → pick r s = none → Go r s i h (.takes (s.vals.length + 1)) { s with vals := s.vals ++ [v], links := s.links ++ [0], hands := s.hands.set i { h with cell := s.vals.length + 1 } }
  | takesFree (v : Int) (c : Nat) : h.deeds[h.at_]? = some (.push v) → h.cell = 0 → pick r s = some c → Go r s i h (.takes c) { s with vals := s.vals.set (c - 1) v, free := s.free.erase c, hands := s.hands.set i { h with cell := c } }
  | readsPush (v : Int) : h.deeds[h.at_]? = some (.push v) → h.cell ≠ 0 → h.seen = none → Go r s i h (.reads s.top) (s.put i { h with seen := some (s.top, s.count) })
  | links (v : Int) (t k : Nat) : h.deeds[h.at_]? = some (.push v) → h.cell ≠ 0 → h.seen = some (t, k) → h.follow = none → Go r s i h (.links t) { s with links := s.links.set (h.cell - 1) t, hands := s.hands.set i { h with follow := some t } }
  | pushes (v : Int) (f : Nat) : h.deeds[h.at_]? = some (.push v) → h.cell ≠ 0 → h.seen = some (s.top, s.count) → h.follow = some f →
      Go r s i h (.ends (.str "done")) { s with top := h.cell, count := bump r s.count, ends := s.ends ++ [(i, h.at_)], hands := s.hands.set i (h.did (.str "done")) }
  | missPush (v : Int) (t k f : Nat) : h.deeds[h.at_]? = some (.push v) → h.cell ≠ 0 → h.seen = some (t, k) → h.follow = some f → ¬ (s.top = t ∧ s.count = k) → Go r s i h .misses (s.put i h.again)
  | meets : h.deeds[h.at_]? = some .pop → h.seen = none → s.top = 0 → Go r s i h (.ends .non) { s with ends := s.ends ++ [(i, h.at_)], hands := s.hands.set i (h.did .non) }
  | readsPop : h.deeds[h.at_]? = some .pop → h.seen = none → s.top ≠ 0 → Go r s i h (.reads s.top) (s.put i { h with seen := some (s.top, s.count) })
  | lets (t k : Nat) : h.deeds[h.at_]? = some .pop → h.seen = some (t, k) → h.cell ≠ 0 → Go r s i h (.ends (.int (valAt s.vals h.cell))) { s with free := s.free ++ [h.cell], hands := s.hands.set i (h.did (.int (valAt s.vals h.cell))) }
  | marks (t k : Nat) : h.deeds[h.at_]? = some .pop → h.seen = some (t, k) → h.cell = 0 → mustMark r i = true → h.looked = false → h.mark ≠ t → Go r s i h (.marks t) (s.put i { h with mark := t })
  | looks (t k : Nat) : h.deeds[h.at_]? = some .pop → h.seen = some (t, k) → h.cell = 0 → mustMark r i = true → h.looked = false → h.mark = t → s.top = t → Go r s i h (.looks true) (s.put i { h with looked := true })
  | looksNot (t k : Nat) : h.deeds[h.at_]? = some .pop → h.seen = some (t, k) → h.cell = 0 → mustMark r i = true → h.looked = false → h.mark = t → s.top ≠ t → Go r s i h (.looks false) (s.put i h.again)
  | follows (t k : Nat) : h.deeds[h.at_]? = some .pop → h.seen = some (t, k) → h.cell = 0 → (mustMark r i = true → h.looked = true) → h.follow = none → Go r s i h (.follows (linkAt s.links t)) (s.put i { h with follow := some (linkAt s.links t) })
  | pops (f : Nat) : h.deeds[h.at_]? = some .pop → h.seen = some (s.top, s.count) → h.cell = 0 → (mustMark r i = true → h.looked = true) → h.follow = some f →
      Go r s i h (.exchanges f) { s with top := f, count := bump r s.count, ends := s.ends ++ [(i, h.at_)], stale := s.stale || (linkAt s.links s.top != f), hands := s.hands.set i { h with cell := s.top } }
  | missPop (t k f : Nat) : h.deeds[h.at_]? = some .pop → h.seen = some (t, k) → h.cell = 0 → (mustMark r i = true → h.looked = true) → h.follow = some f → ¬ (s.top = t ∧ s.count = k) → Go r s i h .misses (s.put i h.again)
theorem go_kind (r : Rule) (s : Mach) (i : Nat) (h : Hand) : Go r s i h (go r s i h).1 (go r s i h).2 := by
  unfold go
  split
  · exact .rests ‹_›
  · rename_i v e
    split
    · rename_i hc
      split
      · exact .takesNew v e hc ‹_›
      · exact .takesFree v _ e hc ‹_›
    · rename_i hc
      split
      · exact .readsPush v e hc ‹_›
      · rename_i t k hs
        split
        · exact .links v t k e hc hs ‹_›
        · rename_i f hf
          split
          · rename_i q
            obtain ⟨rfl, rfl⟩ := q
            exact .pushes v f e hc hs hf
          · exact .missPush v t k f e hc hs hf ‹_›
  · rename_i e
    split
    · rename_i hs
      split
      · exact .meets e hs ‹_›
      · exact .readsPop e hs ‹_›
    · rename_i t k hs
      split
      · exact .lets t k e hs (by omega)
      · rename_i hc
        have hc0 : h.cell = 0 := by omega
        split
        · rename_i hm
          obtain ⟨hm, hl⟩ := hm
          split
          · exact .marks t k e hs hc0 hm hl ‹_›
          · rename_i hk
            have hk' : h.mark = t := Classical.not_not.mp hk
            split
            · exact .looks t k e hs hc0 hm hl hk' ‹_›
            · exact .looksNot t k e hs hc0 hm hl hk' ‹_›
        · rename_i hm
          have hm' : mustMark r i = true → h.looked = true := fun q => by
            cases hl : h.looked with
            | true => rfl
            | false => exact absurd ⟨q, hl⟩ hm
          split
          · exact .follows t k e hs hc0 hm' ‹_›
          · rename_i f hf
            split
            · rename_i q
              obtain ⟨rfl, rfl⟩ := q
              exact .pops f e hs hc0 hm' hf
            · exact .missPop t k f e hs hc0 hm' hf ‹_›
end Sk


/-! As long as no exchange was stale: each cell once, values and answers those of the decided deeds. -/
namespace Sk
open PySem PySem.Spec PyProof.Rows L2
def own (h : Hand) (c : Nat) : Nat := if h.cell = c ∧ c ≠ 0 then 1 else 0
def held (hs : List Hand) : List Nat := hs.flatMap fun h => if h.cell = 0 then [] else [h.cell]
theorem own_count (h : Hand) (c : Nat) : (if h.cell = 0 then [] else [h.cell]).count c = own h c := by
  unfold own
  by_cases h0 : h.cell = 0
  · rw [if_pos h0, if_neg (by omega)]
    rfl
  · rw [if_neg h0, List.count_singleton]
    by_cases e : h.cell = c
    · rw [if_pos (by simp [e]), if_pos (by omega)]
    · rw [if_neg (by simpa using e), if_neg (by omega)]
theorem held_cons (h : Hand) (hs : List Hand) (c : Nat) : (held (h :: hs)).count c = own h c + (held hs).count c := by
  unfold held
  rw [List.flatMap_cons, List.count_append, own_count]
theorem held_set : ∀ (hs : List Hand) (i : Nat) (h h' : Hand) (c : Nat), hs[i]? = some h → (held (hs.set i h')).count c + own h c = (held hs).count c + own h' c
  | [], i, h, h', c, e => by simp at e
  | g :: hs, 0, h, h', c, e => by
    simp at e
    subst e
    rw [List.set_cons_zero, held_cons, held_cons]
    omega
  | g :: hs, i + 1, h, h', c, e => by
    have := held_set hs i h h' c (by simpa using e)
    rw [List.set_cons_succ, held_cons, held_cons]
    omega
theorem own_le : ∀ (hs : List Hand) (i : Nat) (h : Hand) (c : Nat), hs[i]? = some h → own h c ≤ (held hs).count c
  | [], i, h, c, e => by simp at e
  | g :: hs, 0, h, c, e => by
    simp at e
    subst e
    rw [held_cons]
    omega
  | g :: hs, i + 1, h, c, e => by
    have := own_le hs i h c (by simpa using e)
    rw [held_cons]
    omega
theorem own_two {hs : List Hand} {i j : Nat} {h g : Hand} (c : Nat) (hi : hs[i]? = some h) (hj : hs[j]? = some g) (n : i ≠ j) : own h c + own g c ≤ (held hs).count c := by
  have e := held_set hs i h { h with cell := 0 } c hi
  have z : own { h with cell := 0 } c = 0 := by
    unfold own
    rw [if_neg (by show ¬ (0 = c ∧ c ≠ 0); omega)]
  have := own_le (hs.set i { h with cell := 0 }) j g c (by rw [List.getElem?_set_ne n]; exact hj)
  omega
theorem own_self {h : Hand} (n : h.cell ≠ 0) : own h h.cell = 1 := by
  unfold own
  rw [if_pos ⟨rfl, n⟩]
/-- P from t down -/
def Chain (ls : List Nat) : Nat → List Nat → Prop
  | t, [] => t = 0
  | t, c :: P => t = c ∧ c ≠ 0 ∧ Chain ls (linkAt ls c) P
theorem Chain.frame {ls ls' : List Nat} : ∀ {P : List Nat} {t : Nat}, (∀ c ∈ P, linkAt ls' c = linkAt ls c) → Chain ls t P → Chain ls' t P
  | [], _, _, h => h
  | c :: P, _, k, h => ⟨h.1, h.2.1, by
    rw [k c List.mem_cons_self]
    exact Chain.frame (fun d hd => k d (List.mem_cons_of_mem _ hd)) h.2.2⟩
def deedAt (ps : List (List Deed)) (e : Nat × Nat) : Deed := ((ps.getD e.1 []).getD e.2 .pop)
def decided (ps : List (List Deed)) (es : List (Nat × Nat)) : List Deed := es.map (deedAt ps)
/-- answers of hand i's deeds in the order -/
def ownAns (i : Nat) (es : List (Nat × Nat)) (as : List V) : List V := ((es.zip as).filter fun p => decide (p.1.1 = i)).map (·.2)
def ownEnds (i : Nat) (es : List (Nat × Nat)) : List Nat := (es.filter fun p => decide (p.1 = i)).map (·.2)
/-- a pop that has exchanged and not ended -/
def pend (h : Hand) : Bool := match h.deeds[h.at_]? with
  | some .pop => decide (h.cell ≠ 0)
  | _ => false
theorem acts_snoc (xs : List Int) (ds : List Deed) (d : Deed) : acts xs (ds ++ [d]) = ((acts xs ds).1 ++ [(act (acts xs ds).2 d).1], (act (acts xs ds).2 d).2) := by
  unfold acts
  rw [List.foldl_append]
  rfl
theorem ownAns_snoc {i : Nat} {es : List (Nat × Nat)} {as : List V} {e : Nat × Nat} {a : V} (h : es.length = as.length) : ownAns i (es ++ [e]) (as ++ [a]) = ownAns i es as ++ (if e.1 = i then [a] else []) := by
  unfold ownAns
  rw [List.zip_append h, List.filter_append, List.map_append]
  by_cases q : e.1 = i
  · rw [if_pos q]
    simp [q]
  · rw [if_neg q]
    simp [q]
theorem ownEnds_snoc {i : Nat} {es : List (Nat × Nat)} {e : Nat × Nat} : ownEnds i (es ++ [e]) = ownEnds i es ++ (if e.1 = i then [e.2] else []) := by
  unfold ownEnds
  rw [List.filter_append, List.map_append]
  by_cases q : e.1 = i
  · rw [if_pos q]
    simp [q]
  · rw [if_neg q]
    simp [q]
theorem acts_end (xs : List Int) (ps : List (List Deed)) (es : List (Nat × Nat)) (e : Nat × Nat) :
    acts xs (decided ps (es ++ [e])) = ((acts xs (decided ps es)).1 ++ [(act (acts xs (decided ps es)).2 (deedAt ps e)).1], (act (acts xs (decided ps es)).2 (deedAt ps e)).2) := by
  unfold decided
  rw [List.map_append, List.map_cons, List.map_nil, acts_snoc]
structure HandOk (xs : List Int) (ps : List (List Deed)) (s : Mach) (i : Nat) (h : Hand) : Prop where
  prog : ps[i]? = some h.deeds
  le : h.at_ ≤ h.deeds.length
  idle : h.deeds[h.at_]? = none → h.cell = 0
  fresh : h.seen = none → h.follow = none ∧ h.looked = false
  empty : ∀ v, h.deeds[h.at_]? = some (.push v) → h.cell = 0 → h.seen = none
  pushed : ∀ v, h.deeds[h.at_]? = some (.push v) → h.cell ≠ 0 → valAt s.vals h.cell = v ∧ ∀ f, h.follow = some f → linkAt s.links h.cell = f ∧ ∃ k, h.seen = some (f, k)
  seen : h.deeds[h.at_]? = some .pop → ∀ t k, h.seen = some (t, k) → t ≠ 0
  kept : h.deeds[h.at_]? = some .pop → h.cell ≠ 0 → h.seen ≠ none
  said : ownAns i s.ends (acts xs (decided ps s.ends)).1 = h.said ++ (if pend h = true then [V.int (valAt s.vals h.cell)] else [])
  own : ownEnds i s.ends = List.range (h.at_ + (if pend h = true then 1 else 0))
structure Inv (xs : List Int) (ps : List (List Deed)) (s : Mach) (P : List Nat) : Prop where
  chain : Chain s.links s.top P
  len : s.vals.length = s.links.length
  each : ∀ c, P.count c + s.free.count c + (held s.hands).count c = if 1 ≤ c ∧ c ≤ s.links.length then 1 else 0
  worth : (P.map (valAt s.vals)).reverse = (acts xs (decided ps s.ends)).2
  many : s.hands.length = ps.length
  bound : ∀ e ∈ s.ends, e.1 < ps.length
  hand : ∀ i h, s.hands[i]? = some h → HandOk xs ps s i h
section
variable {xs : List Int} {ps : List (List Deed)} {s : Mach} {P : List Nat} {i : Nat} {h : Hand} {r : Rule}
theorem len_acts : s.ends.length = (acts xs (decided ps s.ends)).1.length := by
  rw [acts_len1]
  unfold decided
  rw [List.length_map]
/-- another hand goes on -/
theorem HandOk.frame {s' : Mach} {j : Nat} {g : Hand} (k : HandOk xs ps s j g) (hv : g.cell ≠ 0 → valAt s'.vals g.cell = valAt s.vals g.cell) (hl : g.cell ≠ 0 → linkAt s'.links g.cell = linkAt s.links g.cell)
    (he : s'.ends = s.ends ∨ ∃ e : Nat × Nat, s'.ends = s.ends ++ [e] ∧ e.1 ≠ j) : HandOk xs ps s' j g := by
  refine ⟨k.prog, k.le, k.idle, k.fresh, k.empty, fun v hd hc => ?_, k.seen, k.kept, ?_, ?_⟩
  · rw [hv hc, hl hc]
    exact k.pushed v hd hc
  · have e1 : ownAns j s'.ends (acts xs (decided ps s'.ends)).1 = ownAns j s.ends (acts xs (decided ps s.ends)).1 := by
      rcases he with e | ⟨e, q, n⟩
      · rw [e]
      · rw [q, acts_end]
        show ownAns j (s.ends ++ [e]) ((acts xs (decided ps s.ends)).1 ++ [(act (acts xs (decided ps s.ends)).2 (deedAt ps e)).1]) = _
        rw [ownAns_snoc (len_acts (xs := xs) (ps := ps) (s := s)), if_neg n, List.append_nil]
    rw [e1, k.said]
    by_cases hp : pend g = true
    · rw [if_pos hp, if_pos hp]
      have hc : g.cell ≠ 0 := by
        unfold pend at hp
        split at hp
        · exact of_decide_eq_true hp
        · cases hp
      rw [hv hc]
    · rw [if_neg hp, if_neg hp]
  · have e1 : ownEnds j s'.ends = ownEnds j s.ends := by
      rcases he with e | ⟨e, q, n⟩
      · rw [e]
      · rw [q, ownEnds_snoc, if_neg n, List.append_nil]
    rw [e1, k.own]
/-- where a cell lies -/
theorem Inv.notin {c : Nat} (I : Inv xs ps s P) (hi : s.hands[i]? = some h) (hc : h.cell ≠ 0) : h.cell ∉ P ∧ h.cell ∉ s.free ∧ 1 ≤ h.cell ∧ h.cell ≤ s.links.length := by
  have e := I.each h.cell
  have o := own_le s.hands i h h.cell hi
  rw [own_self hc] at o
  split at e
  · rename_i q
    exact ⟨fun z => by have := List.count_pos_iff.mpr z; omega, fun z => by have := List.count_pos_iff.mpr z; omega, q.1, q.2⟩
  · omega
theorem Inv.other {j : Nat} {g : Hand} (I : Inv xs ps s P) (hi : s.hands[i]? = some h) (hj : s.hands[j]? = some g) (n : i ≠ j) (hc : h.cell ≠ 0) : g.cell ≠ h.cell := fun q => by
  have e := I.each h.cell
  have o := own_two (c := h.cell) hi hj n
  have o2 : own g h.cell = 1 := by rw [← q] at hc ⊢; exact own_self hc
  rw [own_self hc, o2] at o
  split at e <;> omega
theorem Inv.freeIn {c : Nat} (I : Inv xs ps s P) (hc : c ∈ s.free) : c ∉ P ∧ 1 ≤ c ∧ c ≤ s.links.length ∧ (held s.hands).count c = 0 ∧ s.free.count c = 1 ∧ P.count c = 0 := by
  have e := I.each c
  have := List.count_pos_iff.mpr hc
  split at e
  · rename_i q
    exact ⟨fun z => by have := List.count_pos_iff.mpr z; omega, q.1, q.2, by omega, by omega, by omega⟩
  · omega
theorem Inv.pileIn {c : Nat} (I : Inv xs ps s P) (hc : c ∈ P) : c ∉ s.free ∧ 1 ≤ c ∧ c ≤ s.links.length ∧ (held s.hands).count c = 0 := by
  have e := I.each c
  have := List.count_pos_iff.mpr hc
  split at e
  · rename_i q
    exact ⟨fun z => by have := List.count_pos_iff.mpr z; omega, q.1, q.2, by omega⟩
  · omega
theorem Inv.cellNot {c : Nat} (I : Inv xs ps s P) (hz : (held s.hands).count c = 0) (hc : c ≠ 0) (hi : s.hands[i]? = some h) : h.cell ≠ c := fun q => by
  have o := own_le s.hands i h c hi
  rw [← q] at o hc
  rw [own_self hc] at o
  rw [← q] at hz
  omega
theorem pick_mem {c : Nat} (e : pick r s = some c) : c ∈ s.free := by
  unfold pick at e
  split at e
  · cases e
  · exact List.mem_of_find?_eq_some e
theorem pick_marks {c : Nat} (e : pick r s = some c) (g : Hand) (hg : g ∈ s.hands) : g.mark ≠ c := by
  unfold pick at e
  split at e
  · cases e
  · have := List.find?_some e
    intro q
    simp at this
    exact this g hg q
theorem getD_append_lt {α : Type} {l : List α} {x d : α} {n : Nat} (h : n < l.length) : (l ++ [x]).getD n d = l.getD n d := by
  simp [List.getD, List.getElem?_append_left h]
theorem valAt_append {vs : List Int} {v : Int} {c : Nat} (h1 : 1 ≤ c) (h : c ≤ vs.length) : valAt (vs ++ [v]) c = valAt vs c := getD_append_lt (by omega)
theorem linkAt_append {ls : List Nat} {v : Nat} {c : Nat} (h1 : 1 ≤ c) (h : c ≤ ls.length) : linkAt (ls ++ [v]) c = linkAt ls c := getD_append_lt (by omega)
theorem getD_set_ne {α : Type} {l : List α} {x d : α} {n m : Nat} (h : n ≠ m) : (l.set n x).getD m d = l.getD m d := by
  simp [List.getD, List.getElem?_set_ne h]
theorem getD_set_eq {α : Type} {l : List α} {x d : α} {n : Nat} (h : n < l.length) : (l.set n x).getD n d = x := by
  simp [List.getD, List.getElem?_set_self h]
theorem valAt_set {vs : List Int} {v : Int} {a c : Nat} (h1 : 1 ≤ a) (h2 : 1 ≤ c) (n : a ≠ c) : valAt (vs.set (a - 1) v) c = valAt vs c := getD_set_ne (by omega)
theorem linkAt_set {ls : List Nat} {v : Nat} {a c : Nat} (h1 : 1 ≤ a) (h2 : 1 ≤ c) (n : a ≠ c) : linkAt (ls.set (a - 1) v) c = linkAt ls c := getD_set_ne (by omega)
theorem get_set_cases {hs : List Hand} {j : Nat} {g h' : Hand} (hi : i < hs.length) (e : (hs.set i h')[j]? = some g) : (j = i ∧ g = h') ∨ (j ≠ i ∧ hs[j]? = some g) := by
  by_cases q : j = i
  · subst q
    rw [List.getElem?_set_self hi] at e
    exact .inl ⟨rfl, (Option.some.inj e).symm⟩
  · rw [List.getElem?_set_ne (Ne.symm q)] at e
    exact .inr ⟨q, e⟩
theorem lt_of_get {α : Type} {l : List α} {n : Nat} {x : α} (h : l[n]? = some x) : n < l.length := (List.getElem?_eq_some_iff.mp h).1
end
end Sk


namespace Sk
open PySem PySem.Spec PyProof.Rows L2
/-- the pile behind a step -/
def pileBy (h : Hand) (st : Stp) (P : List Nat) : List Nat := match st with
  | .exchanges _ => P.tail
  | .ends _ => (match h.deeds[h.at_]? with
    | some (.push _) => h.cell :: P
    | _ => P)
  | _ => P
section
variable {xs : List Int} {ps : List (List Deed)} {s : Mach} {P : List Nat} {i : Nat} {h : Hand} {r : Rule}
theorem Inv.mk2 {s' : Mach} {P' : List Nat} {h' : Hand} (I : Inv xs ps s P) (hi : s.hands[i]? = some h) (eh : s'.hands = s.hands.set i h') (chain : Chain s'.links s'.top P') (len : s'.vals.length = s'.links.length)
    (each : ∀ c, P'.count c + s'.free.count c + ((held s.hands).count c + own h' c - own h c) = if 1 ≤ c ∧ c ≤ s'.links.length then 1 else 0)
    (worth : (P'.map (valAt s'.vals)).reverse = (acts xs (decided ps s'.ends)).2) (he : s'.ends = s.ends ∨ ∃ n, s'.ends = s.ends ++ [(i, n)])
    (fr : ∀ j g, j ≠ i → s.hands[j]? = some g → g.cell ≠ 0 → valAt s'.vals g.cell = valAt s.vals g.cell ∧ linkAt s'.links g.cell = linkAt s.links g.cell) (ok : HandOk xs ps s' i h') : Inv xs ps s' P' := by
  refine ⟨chain, len, fun c => ?_, worth, by rw [eh, List.length_set]; exact I.many, fun e hm => ?_, fun j g hj => ?_⟩
  · have e := held_set s.hands i h h' c hi
    have := each c
    rw [eh]
    omega
  · rcases he with q | ⟨n, q⟩
    · exact I.bound e (q ▸ hm)
    · rw [q] at hm
      rcases List.mem_append.mp hm with hm | hm
      · exact I.bound e hm
      · rw [List.mem_singleton.mp hm, ← I.many]
        exact lt_of_get hi
  · rw [eh] at hj
    rcases get_set_cases (lt_of_get hi) hj with ⟨rfl, rfl⟩ | ⟨n, hj⟩
    · exact ok
    · refine (I.hand j g hj).frame (fun q => (fr j g n hj q).1) (fun q => (fr j g n hj q).2) ?_
      rcases he with e | ⟨m, e⟩
      · exact .inl e
      · exact .inr ⟨_, e, fun q => n q.symm⟩
theorem own_same {h h' : Hand} (e : h'.cell = h.cell) (c : Nat) : own h' c = own h c := by
  unfold own
  rw [e]
theorem Inv.put {h' : Hand} (I : Inv xs ps s P) (hi : s.hands[i]? = some h) (hc : h'.cell = h.cell) (ok : HandOk xs ps s i h') : Inv xs ps (s.put i h') P := by
  refine I.mk2 (h' := h') hi rfl I.chain I.len (fun c => ?_) I.worth (.inl rfl) (fun _ _ _ _ _ => ⟨rfl, rfl⟩) ⟨ok.prog, ok.le, ok.idle, ok.fresh, ok.empty, ok.pushed, ok.seen, ok.kept, ok.said, ok.own⟩
  have e := I.each c
  have o := own_le s.hands i h c hi
  rw [own_same hc]
  show P.count c + s.free.count c + _ = if 1 ≤ c ∧ c ≤ s.links.length then 1 else 0
  omega
theorem pend_push {v : Int} (e : h.deeds[h.at_]? = some (.push v)) : pend h = false := by
  unfold pend
  rw [e]
theorem pend_pop (e : h.deeds[h.at_]? = some .pop) : pend h = decide (h.cell ≠ 0) := by
  unfold pend
  rw [e]
theorem pend_did (a : V) : pend (h.did a) = false := by
  unfold pend
  split
  · exact decide_eq_false (by show ¬ (0 ≠ 0); omega)
  · rfl
theorem HandOk.frE {s s' : Mach} (k : HandOk xs ps s i h) (e1 : s'.vals = s.vals) (e2 : s'.links = s.links) (e3 : s'.ends = s.ends) : HandOk xs ps s' i h :=
  k.frame (fun _ => by rw [e1]) (fun _ => by rw [e2]) (.inl e3)
theorem deedAt_of {d : Deed} (hp : ps[i]? = some h.deeds) (hd : h.deeds[h.at_]? = some d) : deedAt ps (i, h.at_) = d := by
  unfold deedAt
  simp [List.getD, hp, hd]
theorem Inv.valP (I : Inv xs ps s P) : (acts xs (decided ps s.ends)).2 = (P.map (valAt s.vals)).reverse := I.worth.symm
/-- the hand whose deed ends -/
theorem HandOk.ends {s' : Mach} {d : Deed} {a : V} (k : HandOk xs ps s i h) (hd : h.deeds[h.at_]? = some d) (np : pend h = false) (he : s'.ends = s.ends ++ [(i, h.at_)]) (ha : (act (acts xs (decided ps s.ends)).2 d).1 = a) : HandOk xs ps s' i (h.did a) := by
  have hl := (List.getElem?_eq_some_iff.mp hd).1
  have ed := deedAt_of (i := i) (ps := ps) k.prog hd
  refine ⟨k.prog, by show h.at_ + 1 ≤ h.deeds.length; omega, fun _ => rfl, fun _ => ⟨rfl, rfl⟩, fun _ _ _ => rfl, fun v _ q => absurd rfl q, fun _ t kk q => (by cases q), fun _ q => absurd rfl q, ?_, ?_⟩
  · rw [he, acts_end, ed, ha]
    show ownAns i (s.ends ++ [(i, h.at_)]) ((acts xs (decided ps s.ends)).1 ++ [a]) = _
    rw [ownAns_snoc (len_acts (xs := xs) (ps := ps) (s := s)), if_pos rfl, k.said, np, pend_did]
    show h.said ++ (if false = true then _ else []) ++ [a] = (h.said ++ [a]) ++ (if false = true then _ else [])
    simp
  · rw [he, ownEnds_snoc, if_pos rfl, k.own, np, pend_did]
    show List.range (h.at_ + 0) ++ [h.at_] = List.range (h.at_ + 1 + 0)
    rw [List.range_succ]
    rfl
theorem count_erase_mem {l : List Nat} {c d : Nat} (h : c ∈ l) : (l.erase c).count d + (if d = c then 1 else 0) = l.count d := by
  by_cases q : d = c
  · subst q
    rw [if_pos rfl, List.count_erase_self]
    have := List.count_pos_iff.mpr h
    omega
  · rw [if_neg q, List.count_erase_of_ne q]
    rfl
theorem map_frame {α β : Type} {f g : α → β} {l : List α} (h : ∀ x ∈ l, f x = g x) : l.map f = l.map g := List.map_congr_left h
theorem Inv.go {st : Stp} {s' : Mach} (I : Inv xs ps s P) (hi : s.hands[i]? = some h) (G : Go r s i h st s') (ns : s'.stale = false) : Inv xs ps s' (pileBy h st P) := by
  have k := I.hand i h hi
  have hl := lt_of_get hi
  cases G with
  | rests e => exact I
  | takesNew v e hc hp =>
    refine I.mk2 (h' := { h with cell := s.vals.length + 1 }) hi rfl ?_ ?_ (fun c => ?_) ?_ (.inl rfl) (fun j g n hj gc => ?_) ?_
    · exact I.chain.frame fun c hc => linkAt_append (I.pileIn hc).2.1 (I.pileIn hc).2.2.1
    · show (s.vals ++ [v]).length = (s.links ++ [0]).length
      rw [List.length_append, List.length_append, I.len]
      rfl
    · have q := I.each c
      have o1 : own h c = 0 := by
        unfold own
        rw [if_neg (by omega)]
      have o2 : own { h with cell := s.vals.length + 1 } c = if c = s.vals.length + 1 then 1 else 0 := by
        unfold own
        show (if s.vals.length + 1 = c ∧ c ≠ 0 then 1 else 0) = _
        split <;> split <;> omega
      rw [o1, o2]
      show P.count c + s.free.count c + _ = if 1 ≤ c ∧ c ≤ (s.links ++ [0]).length then 1 else 0
      rw [List.length_append, I.len]
      have e1 : [0].length = 1 := rfl
      rw [e1]
      split at q <;> split <;> split <;> omega
    · show ((pileBy h _ P).map (valAt (s.vals ++ [v]))).reverse = (acts xs (decided ps s.ends)).2
      rw [← I.worth]
      congr 1
      exact map_frame fun c hc => valAt_append (I.pileIn hc).2.1 (by rw [I.len]; exact (I.pileIn hc).2.2.1)
    · obtain ⟨_, _, b1, b2⟩ := I.notin (c := 0) hj gc
      exact ⟨valAt_append b1 (by rw [I.len]; exact b2), linkAt_append b1 b2⟩
    · have sn := k.empty v e hc
      refine ⟨k.prog, k.le, fun q => ?_, k.fresh, fun u hd q => absurd (show s.vals.length + 1 = 0 from q) (by omega), fun u hd _ => ⟨?_, fun f hf => ?_⟩, fun q => ?_, fun q => ?_, ?_, ?_⟩
      · rw [show h.deeds[h.at_]? = none from q] at e
        cases e
      · have q := e.symm.trans (show h.deeds[h.at_]? = some (.push u) from hd)
        injection q with q
        injection q with q
        show valAt (s.vals ++ [v]) (s.vals.length + 1) = u
        unfold valAt
        simp [List.getD, q]
      · exact absurd (k.fresh sn).1 (by rw [show h.follow = some f from hf]; simp)
      · rw [show h.deeds[h.at_]? = some .pop from q] at e
        cases e
      · rw [show h.deeds[h.at_]? = some .pop from q] at e
        cases e
      · have := k.said
        rw [pend_push e] at this
        rw [pend_push (h := { h with cell := s.vals.length + 1 }) e]
        exact this
      · have := k.own
        rw [pend_push e] at this
        rw [pend_push (h := { h with cell := s.vals.length + 1 }) e]
        exact this
  | takesFree v c e hc hp =>
    have hf := pick_mem hp
    obtain ⟨f1, f2, f3, f4, f5, f6⟩ := I.freeIn hf
    have sn := k.empty v e hc
    refine I.mk2 (h' := { h with cell := c }) hi rfl ?_ ?_ (fun d => ?_) ?_ (.inl rfl) (fun j g n hj gc => ?_) ?_
    · exact I.chain
    · show (s.vals.set (c - 1) v).length = s.links.length
      rw [List.length_set, I.len]
    · have q := I.each d
      have o1 : own h d = 0 := by
        unfold own
        rw [if_neg (by omega)]
      have o2 : own { h with cell := c } d = if d = c then 1 else 0 := by
        unfold own
        show (if c = d ∧ d ≠ 0 then 1 else 0) = _
        split <;> split <;> omega
      have o3 := count_erase_mem (d := d) hf
      rw [o1, o2]
      show P.count d + (s.free.erase c).count d + _ = if 1 ≤ d ∧ d ≤ s.links.length then 1 else 0
      omega
    · show (P.map (valAt (s.vals.set (c - 1) v))).reverse = (acts xs (decided ps s.ends)).2
      rw [← I.worth]
      congr 1
      exact map_frame fun d hd => valAt_set f2 (I.pileIn hd).2.1 (fun q => f1 (q ▸ hd))
    · obtain ⟨_, b0, b1, b2⟩ := I.notin (c := 0) hj gc
      exact ⟨valAt_set f2 b1 (fun q => I.cellNot f4 (by omega) hj q.symm), rfl⟩
    · refine ⟨k.prog, k.le, fun q => ?_, k.fresh, fun u hd q => absurd (show c = 0 from q) (by omega), fun u hd _ => ⟨?_, fun f hf => ?_⟩, fun q => ?_, fun q => ?_, ?_, ?_⟩
      · rw [show h.deeds[h.at_]? = none from q] at e
        cases e
      · have q := e.symm.trans (show h.deeds[h.at_]? = some (.push u) from hd)
        injection q with q
        injection q with q
        show valAt (s.vals.set (c - 1) v) c = u
        rw [← q]
        exact getD_set_eq (by rw [I.len]; omega)
      · exact absurd (k.fresh sn).1 (by rw [show h.follow = some f from hf]; simp)
      · rw [show h.deeds[h.at_]? = some .pop from q] at e
        cases e
      · rw [show h.deeds[h.at_]? = some .pop from q] at e
        cases e
      · have := k.said
        rw [pend_push e] at this
        rw [pend_push (h := { h with cell := c }) e]
        exact this
      · have := k.own
        rw [pend_push e] at this
        rw [pend_push (h := { h with cell := c }) e]
        exact this
  | readsPush v e hc hs =>
    refine I.put (h' := { h with seen := some (s.top, s.count) }) hi rfl ⟨k.prog, k.le, k.idle, fun q => (by cases q), fun u hd q => absurd q hc, fun u hd q => ⟨(k.pushed u hd q).1, fun f hf => ?_⟩, fun q => ?_, fun _ _ q => (by cases q), k.said, k.own⟩
    · exact absurd (k.fresh hs).1 (by rw [show h.follow = some f from hf]; simp)
    · rw [show h.deeds[h.at_]? = some .pop from q] at e
      cases e
  | links v t kk e hc hs hf =>
    obtain ⟨p1, p2, p3, p4⟩ := I.notin (c := 0) hi hc
    refine I.mk2 (h' := { h with follow := some t }) hi rfl ?_ ?_ (fun d => ?_) I.worth (.inl rfl) (fun j g n hj gc => ?_) ?_
    · exact I.chain.frame fun d hd => linkAt_set p3 (I.pileIn hd).2.1 (fun q => p1 (q ▸ hd))
    · show s.vals.length = (s.links.set (h.cell - 1) t).length
      rw [List.length_set, I.len]
    · have q := I.each d
      have o := own_le s.hands i h d hi
      rw [own_same (h := h) (h' := { h with follow := some t }) rfl]
      show P.count d + s.free.count d + _ = if 1 ≤ d ∧ d ≤ (s.links.set (h.cell - 1) t).length then 1 else 0
      rw [List.length_set]
      omega
    · obtain ⟨_, _, b1, b2⟩ := I.notin (c := 0) hj gc
      exact ⟨rfl, linkAt_set p3 b1 (fun q => I.other hi hj (fun z => n z.symm) hc q.symm)⟩
    · refine ⟨k.prog, k.le, k.idle, fun q => ?_, fun u hd q => absurd q hc, fun u hd q => ⟨(k.pushed u hd q).1, fun f hf2 => ?_⟩, k.seen, k.kept, k.said, k.own⟩
      · rw [show h.seen = none from q] at hs
        cases hs
      · have ef : t = f := Option.some.inj hf2
        subst ef
        exact ⟨getD_set_eq (by omega), kk, hs⟩
  | pushes v f e hc hs hf =>
    obtain ⟨p1, p2, p3, p4⟩ := I.notin (c := 0) hi hc
    obtain ⟨v1, v2⟩ := k.pushed v e hc
    obtain ⟨l1, k2, l2⟩ := v2 f hf
    have ft : f = s.top := by
      rw [hs] at l2
      injection l2 with l2
      injection l2 with l2 _
      exact l2.symm
    have ed := deedAt_of (i := i) (ps := ps) k.prog e
    have eb : pileBy h (.ends (.str "done")) P = h.cell :: P := by
      show (match h.deeds[h.at_]? with | some (.push _) => h.cell :: P | _ => P) = _
      rw [e]
    rw [eb]
    refine I.mk2 (h' := h.did (.str "done")) hi rfl ⟨rfl, hc, ?_⟩ I.len (fun d => ?_) ?_ (.inr ⟨_, rfl⟩) (fun _ _ _ _ _ => ⟨rfl, rfl⟩) ?_
    · show Chain s.links (linkAt s.links h.cell) P
      rw [l1, ft]
      exact I.chain
    · have q := I.each d
      have o := own_le s.hands i h d hi
      have o2 : own (h.did (.str "done")) d = 0 := by
        unfold own
        rw [if_neg (by show ¬ (0 = d ∧ d ≠ 0); omega)]
      rw [o2, List.count_cons]
      show P.count d + (if (h.cell == d) = true then 1 else 0) + s.free.count d + _ = if 1 ≤ d ∧ d ≤ s.links.length then 1 else 0
      have o3 : own h d = if (h.cell == d) = true then 1 else 0 := by
        unfold own
        by_cases z : h.cell = d
        · rw [if_pos ⟨z, by omega⟩, if_pos (by simp [z])]
        · rw [if_neg (fun q => z q.1), if_neg (by simp [z])]
      omega
    · show ((h.cell :: P).map (valAt s.vals)).reverse = (acts xs (decided ps (s.ends ++ [(i, h.at_)]))).2
      rw [acts_end, ed, List.map_cons, List.reverse_cons, I.worth, v1]
      rfl
    · refine k.ends e (pend_push e) rfl ?_
      rfl
  | missPush v t kk f e hc hs hf n =>
    refine I.put (h' := h.again) hi rfl ⟨k.prog, k.le, k.idle, fun _ => ⟨rfl, rfl⟩, fun u hd q => absurd q hc, fun u hd q => ⟨(k.pushed u hd q).1, fun f hf => by cases hf⟩, fun q => ?_, fun q => ?_, k.said, k.own⟩
    · rw [show h.deeds[h.at_]? = some .pop from q] at e
      cases e
    · rw [show h.deeds[h.at_]? = some .pop from q] at e
      cases e
  | meets e hs ht =>
    have hc : h.cell = 0 := Classical.byContradiction fun q => k.kept e q hs
    have pe : P = [] := by
      have := I.chain
      rw [ht] at this
      cases P with
      | nil => rfl
      | cons c P => exact absurd this.1.symm this.2.1
    have ed := deedAt_of (i := i) (ps := ps) k.prog e
    have ew : (acts xs (decided ps s.ends)).2 = [] := by rw [← I.worth, pe]; rfl
    have eb : pileBy h (.ends .non) P = P := by
      show (match h.deeds[h.at_]? with | some (.push _) => h.cell :: P | _ => P) = _
      rw [e]
    rw [eb]
    refine I.mk2 (h' := h.did .non) hi rfl I.chain I.len (fun d => ?_) ?_ (.inr ⟨_, rfl⟩) (fun _ _ _ _ _ => ⟨rfl, rfl⟩) ?_
    · have q := I.each d
      have o2 : own (h.did .non) d = 0 := by
        unfold own
        rw [if_neg (by show ¬ (0 = d ∧ d ≠ 0); omega)]
      have o3 : own h d = 0 := by
        unfold own
        rw [if_neg (by omega)]
      rw [o2, o3]
      exact q
    · show (P.map (valAt s.vals)).reverse = (acts xs (decided ps (s.ends ++ [(i, h.at_)]))).2
      rw [acts_end, ed, ew, pe]
      rfl
    · refine k.ends e (by rw [pend_pop e]; exact decide_eq_false (by omega)) rfl ?_
      rw [ew]
      rfl
  | readsPop e hs ht =>
    refine I.put (h' := { h with seen := some (s.top, s.count) }) hi rfl ⟨k.prog, k.le, k.idle, fun q => (by cases q), fun u hd q => ?_, fun u hd => ?_, fun _ t kk q => ?_, fun _ _ q => (by cases q), k.said, k.own⟩
    · rw [show h.deeds[h.at_]? = some (.push u) from hd] at e
      cases e
    · rw [show h.deeds[h.at_]? = some (.push u) from hd] at e
      cases e
    · have q2 : (s.top, s.count) = (t, kk) := Option.some.inj q
      injection q2 with q2 _
      omega
  | lets t kk e hs hc =>
    obtain ⟨p1, p2, p3, p4⟩ := I.notin (c := 0) hi hc
    have hpd : pend h = true := by rw [pend_pop e]; exact decide_eq_true hc
    have eb : pileBy h (.ends (.int (valAt s.vals h.cell))) P = P := by
      show (match h.deeds[h.at_]? with | some (.push _) => h.cell :: P | _ => P) = _
      rw [e]
    rw [eb]
    refine I.mk2 (h' := h.did (.int (valAt s.vals h.cell))) hi rfl I.chain I.len (fun d => ?_) I.worth (.inl rfl) (fun _ _ _ _ _ => ⟨rfl, rfl⟩) ?_
    · have q := I.each d
      have o := own_le s.hands i h d hi
      have o2 : own (h.did (.int (valAt s.vals h.cell))) d = 0 := by
        unfold own
        rw [if_neg (by show ¬ (0 = d ∧ d ≠ 0); omega)]
      have o3 : own h d = if (h.cell == d) = true then 1 else 0 := by
        unfold own
        by_cases z : h.cell = d
        · rw [if_pos ⟨z, by omega⟩, if_pos (by simp [z])]
        · rw [if_neg (fun q => z q.1), if_neg (by simp [z])]
      rw [o2]
      show P.count d + (s.free ++ [h.cell]).count d + _ = if 1 ≤ d ∧ d ≤ s.links.length then 1 else 0
      rw [List.count_append, List.count_singleton]
      omega
    · have hl := (List.getElem?_eq_some_iff.mp e).1
      refine ⟨k.prog, by show h.at_ + 1 ≤ h.deeds.length; omega, fun _ => rfl, fun _ => ⟨rfl, rfl⟩, fun _ _ _ => rfl, fun v _ q => absurd rfl q, fun _ t kk q => (by cases q), fun _ q => absurd rfl q, ?_, ?_⟩
      · have q := k.said
        rw [hpd] at q
        rw [pend_did]
        show ownAns i s.ends _ = (h.said ++ [_]) ++ []
        rw [List.append_nil]
        exact q
      · have q := k.own
        rw [hpd] at q
        rw [pend_did]
        exact q
  | marks t kk e hs hc hm hl hk =>
    exact I.put (h' := { h with mark := t }) hi rfl ⟨k.prog, k.le, k.idle, k.fresh, k.empty, k.pushed, k.seen, k.kept, k.said, k.own⟩
  | looks t kk e hs hc hm hl hk ht =>
    exact I.put (h' := { h with looked := true }) hi rfl ⟨k.prog, k.le, k.idle, fun q => (by rw [show h.seen = none from q] at hs; cases hs), k.empty, k.pushed, k.seen, k.kept, k.said, k.own⟩
  | looksNot t kk e hs hc hm hl hk ht =>
    refine I.put (h' := h.again) hi rfl ⟨k.prog, k.le, k.idle, fun _ => ⟨rfl, rfl⟩, fun _ _ _ => rfl, fun u hd q => absurd hc q, fun _ _ _ q => (by cases q), fun _ q => absurd hc q, k.said, k.own⟩
  | follows t kk e hs hc hm hf =>
    refine I.put (h' := { h with follow := some (linkAt s.links t) }) hi rfl ⟨k.prog, k.le, k.idle, fun q => ?_, fun u hd q => ?_, fun u hd q => absurd hc q, k.seen, k.kept, k.said, k.own⟩
    · rw [show h.seen = none from q] at hs
      cases hs
    · rw [show h.deeds[h.at_]? = some (.push u) from hd] at e
      cases e
  | pops f e hs hc hm hf =>
    have t0 := k.seen e _ _ hs
    obtain ⟨c, P2, rfl⟩ : ∃ c P2, P = c :: P2 := by
      cases P with
      | nil => exact absurd I.chain t0
      | cons c P2 => exact ⟨c, P2, rfl⟩
    obtain ⟨ct, c0, ch⟩ := I.chain
    subst ct
    have lf : linkAt s.links s.top = f := by
      have q : (s.stale || (linkAt s.links s.top != f)) = false := ns
      have q2 := (Bool.or_eq_false_iff.mp q).2
      simpa using q2
    have ed := deedAt_of (i := i) (ps := ps) k.prog e
    obtain ⟨q1, q2, q3, q4⟩ := I.pileIn (c := s.top) List.mem_cons_self
    have aw : (acts xs (decided ps s.ends)).2 = (P2.map (valAt s.vals)).reverse ++ [valAt s.vals s.top] := by
      rw [← I.worth, List.map_cons, List.reverse_cons]
    have ax : act (acts xs (decided ps s.ends)).2 .pop = (.int (valAt s.vals s.top), (P2.map (valAt s.vals)).reverse) := by
      rw [aw]
      unfold act
      simp
    refine I.mk2 (P' := P2) (h' := { h with cell := s.top }) hi rfl ?_ I.len (fun d => ?_) ?_ (.inr ⟨_, rfl⟩) (fun _ _ _ _ _ => ⟨rfl, rfl⟩) ?_
    · show Chain s.links f P2
      rw [← lf]
      exact ch
    · have q := I.each d
      have o1 : own h d = 0 := by
        unfold own
        rw [if_neg (by omega)]
      have o2 : own { h with cell := s.top } d = if (s.top == d) = true then 1 else 0 := by
        unfold own
        show (if s.top = d ∧ d ≠ 0 then 1 else 0) = _
        by_cases z : s.top = d
        · rw [if_pos ⟨z, by omega⟩, if_pos (by simp [z])]
        · rw [if_neg (fun q => z q.1), if_neg (by simp [z])]
      rw [List.count_cons] at q
      rw [o1, o2]
      show P2.count d + s.free.count d + _ = if 1 ≤ d ∧ d ≤ s.links.length then 1 else 0
      omega
    · show (P2.map (valAt s.vals)).reverse = (acts xs (decided ps (s.ends ++ [(i, h.at_)]))).2
      rw [acts_end, ed, ax]
    · have hp0 : pend h = false := by rw [pend_pop e]; exact decide_eq_false (by omega)
      have hp1 : pend { h with cell := s.top } = true := by rw [pend_pop (h := { h with cell := s.top }) e]; exact decide_eq_true c0
      refine ⟨k.prog, k.le, fun q => ?_, k.fresh, fun u hd q => absurd q c0, fun u hd q => ?_, k.seen, fun _ _ q => ?_, ?_, ?_⟩
      · rw [show h.deeds[h.at_]? = none from q] at e
        cases e
      · rw [show h.deeds[h.at_]? = some (.push u) from hd] at e
        cases e
      · rw [show h.seen = none from q] at hs
        cases hs
      · rw [hp1]
        show ownAns i (s.ends ++ [(i, h.at_)]) (acts xs (decided ps (s.ends ++ [(i, h.at_)]))).1 = h.said ++ [.int (valAt s.vals s.top)]
        rw [acts_end, ed, ax]
        show ownAns i (s.ends ++ [(i, h.at_)]) ((acts xs (decided ps s.ends)).1 ++ [_]) = _
        rw [ownAns_snoc (len_acts (xs := xs) (ps := ps) (s := s)), if_pos rfl, k.said, hp0]
        show h.said ++ [] ++ _ = _
        rw [List.append_nil]
      · rw [hp1]
        show ownEnds i (s.ends ++ [(i, h.at_)]) = List.range (h.at_ + 1)
        rw [ownEnds_snoc, if_pos rfl, k.own, hp0, List.range_succ]
        rfl
  | missPop t kk f e hs hc hm hf n =>
    refine I.put (h' := h.again) hi rfl ⟨k.prog, k.le, k.idle, fun _ => ⟨rfl, rfl⟩, fun _ _ _ => rfl, fun u hd q => absurd hc q, fun _ _ _ q => (by cases q), fun _ q => absurd hc q, k.said, k.own⟩
end
end Sk


namespace Sk
open PySem PySem.Spec PyProof.Rows L2
def down : Nat → List Nat
  | 0 => []
  | n + 1 => (n + 1) :: down n
theorem down_count (n c : Nat) : (down n).count c = if 1 ≤ c ∧ c ≤ n then 1 else 0 := by
  induction n with
  | zero =>
    show ([] : List Nat).count c = _
    rw [if_neg (by omega)]
    rfl
  | succ n ih =>
    show ((n + 1) :: down n).count c = _
    rw [List.count_cons, ih]
    by_cases q : n + 1 = c
    · have e : ((n + 1 == c) = true) := by simp [q]
      simp only [e, if_true]
      split <;> split <;> omega
    · have e : (n + 1 == c) = false := by simpa using q
      have e2 : (if (n + 1 == c) = true then 1 else 0) = 0 := by rw [e]; rfl
      rw [e2]
      split <;> split <;> omega
theorem down_chain (n : Nat) : ∀ m, m ≤ n → Chain (List.range n) m (down m)
  | 0, _ => rfl
  | m + 1, h => by
    refine ⟨rfl, by omega, ?_⟩
    have e : linkAt (List.range n) (m + 1) = m := by
      unfold linkAt
      simp [List.getD, List.getElem?_range (show m < n by omega)]
    rw [e]
    exact down_chain n m (by omega)
theorem down_vals : ∀ (xs : List Int) (m : Nat), m ≤ xs.length → ((down m).map (valAt xs)).reverse = xs.take m
  | xs, 0, _ => rfl
  | xs, m + 1, h => by
    have e : valAt xs (m + 1) = xs[m]'(by omega) := by
      unfold valAt
      simp [List.getD, List.getElem?_eq_getElem (show m < xs.length by omega)]
    show (((m + 1) :: down m).map (valAt xs)).reverse = _
    rw [List.map_cons, List.reverse_cons, down_vals xs m (by omega), e, List.take_succ_eq_append_getElem (by omega)]
theorem Inv.begun (xs : List Int) (ps : List (List Deed)) : Inv xs ps (Mach.begun xs ps) (down xs.length) := by
  have hh : ∀ (qs : List (List Deed)) (c : Nat), (held (qs.map Hand.new)).count c = 0 := by
    intro qs c
    induction qs with
    | nil => rfl
    | cons q qs ih =>
      rw [List.map_cons, held_cons, ih]
      unfold own
      rw [if_neg (by show ¬ (0 = c ∧ c ≠ 0); omega)]
  refine ⟨?_, ?_, fun c => ?_, ?_, ?_, fun e h => (by cases h), fun i h hi => ?_⟩
  · exact down_chain xs.length xs.length (Nat.le_refl _)
  · show xs.length = (List.range xs.length).length
    rw [List.length_range]
  · show (down xs.length).count c + ([] : List Nat).count c + (held (ps.map Hand.new)).count c = if 1 ≤ c ∧ c ≤ (List.range xs.length).length then 1 else 0
    rw [hh, down_count, List.length_range]
    rfl
  · show ((down xs.length).map (valAt xs)).reverse = xs
    rw [down_vals xs xs.length (Nat.le_refl _), List.take_length]
  · show (ps.map Hand.new).length = ps.length
    rw [List.length_map]
  · have hi2 : (ps.map Hand.new)[i]? = some h := hi
    rw [List.getElem?_map] at hi2
    cases e : ps[i]? with
    | none =>
      rw [e] at hi2
      cases hi2
    | some ds =>
      rw [e] at hi2
      have q : Hand.new ds = h := Option.some.inj hi2
      subst q
      have pn : pend (Hand.new ds) = false := by
        unfold pend
        split
        · exact decide_eq_false (by show ¬ (0 ≠ 0); omega)
        · rfl
      refine ⟨e, Nat.zero_le _, fun _ => rfl, fun _ => ⟨rfl, rfl⟩, fun _ _ _ => rfl, fun _ _ q => absurd rfl q, fun _ _ _ q => (by cases q), fun _ q => absurd rfl q, ?_, ?_⟩
      · rw [pn]
        rfl
      · rw [pn]
        rfl
section
variable {xs : List Int} {ps : List (List Deed)} {s : Mach} {P : List Nat} {i : Nat} {h : Hand} {r : Rule}
theorem turn_some (hi : s.hands[i]? = some h) : turn r s i = go r s i h := by
  unfold turn
  rw [hi]
theorem turn_none (hi : s.hands[i]? = none) : turn r s i = (.rests, s) := by
  unfold turn
  rw [hi]
theorem Go.mono {st : Stp} {s' : Mach} (G : Go r s i h st s') (ns : s'.stale = false) : s.stale = false := by
  cases G <;> first | exact ns | exact (Bool.or_eq_false_iff.mp ns).1
theorem turn_mono (ns : (turn r s i).2.stale = false) : s.stale = false := by
  cases hi : s.hands[i]? with
  | none =>
    rw [turn_none hi] at ns
    exact ns
  | some h =>
    rw [turn_some hi] at ns
    exact (go_kind r s i h).mono ns
theorem Inv.turn (I : Inv xs ps s P) (ns : (turn r s i).2.stale = false) : ∃ P', Inv xs ps (turn r s i).2 P' := by
  cases hi : s.hands[i]? with
  | none =>
    rw [turn_none hi]
    exact ⟨P, I⟩
  | some h =>
    rw [turn_some hi] at ns ⊢
    exact ⟨_, I.go hi (go_kind r s i h) ns⟩
theorem play_mono : ∀ {w : List Nat} {s : Mach}, (play r s w).2.stale = false → s.stale = false
  | [], _, h => h
  | i :: w, s, h => turn_mono (play_mono (w := w) h)
theorem Inv.play : ∀ {w : List Nat} {s : Mach} {P : List Nat}, Inv xs ps s P → (play r s w).2.stale = false → ∃ P', Inv xs ps (play r s w).2 P'
  | [], s, P, I, _ => ⟨P, I⟩
  | i :: w, s, P, I, ns => by
    obtain ⟨P1, I1⟩ := I.turn (r := r) (i := i) (play_mono (w := w) ns)
    exact Inv.play (w := w) (s := (Sk.turn r s i).2) I1 ns
/-! ### how many deeds are decided -/
theorem sum_add (f g : Nat → Nat) : ∀ n, ((List.range n).map fun i => f i + g i).sum = ((List.range n).map f).sum + ((List.range n).map g).sum
  | 0 => rfl
  | n + 1 => by
    rw [List.range_succ, List.map_append, List.map_append, List.map_append, List.sum_append, List.sum_append, List.sum_append, sum_add f g n]
    simp
    omega
theorem sum_one (a : Nat) : ∀ n, ((List.range n).map fun i => if a = i then 1 else 0).sum = if a < n then 1 else 0
  | 0 => rfl
  | n + 1 => by
    rw [List.range_succ, List.map_append, List.sum_append, sum_one a n]
    simp
    split <;> split <;> split <;> omega
theorem len_own {n : Nat} : ∀ {es : List (Nat × Nat)}, (∀ e ∈ es, e.1 < n) → es.length = ((List.range n).map fun i => (ownEnds i es).length).sum
  | [], _ => by
    have e : ∀ m, ((List.range m).map fun i => (ownEnds i []).length).sum = 0 := fun m => by
      induction m with
      | zero => rfl
      | succ m ih =>
        rw [List.range_succ, List.map_append, List.sum_append, ih]
        rfl
    rw [e]
    rfl
  | e :: es, h => by
    have ih := len_own (n := n) (es := es) fun x hx => h x (List.mem_cons_of_mem _ hx)
    have q : (fun i => (ownEnds i (e :: es)).length) = fun i => (ownEnds i es).length + (if e.1 = i then 1 else 0) := by
      funext i
      unfold ownEnds
      by_cases z : e.1 = i
      · simp [List.filter_cons, z]
      · simp [List.filter_cons, z]
    rw [q, sum_add, sum_one, if_pos (h e List.mem_cons_self), ← ih]
    rfl
theorem sum_le {f g : Nat → Nat} : ∀ {n : Nat}, (∀ i, i < n → f i ≤ g i) → ((List.range n).map f).sum ≤ ((List.range n).map g).sum
  | 0, _ => Nat.le_refl _
  | n + 1, h => by
    rw [List.range_succ, List.map_append, List.map_append, List.sum_append, List.sum_append]
    have := sum_le (n := n) fun i hi => h i (by omega)
    have := h n (by omega)
    simp
    omega
def total (ps : List (List Deed)) : Nat := (ps.map List.length).sum
theorem total_range (ps : List (List Deed)) : total ps = ((List.range ps.length).map fun i => (ps.getD i []).length).sum := by
  unfold total
  congr 1
  apply List.ext_getElem
  · simp
  · intro i h1 h2
    simp at h1 h2
    simp [List.getD, List.getElem?_eq_getElem h1]
theorem pend_le (k : HandOk xs ps s i h) : h.at_ + (if pend h = true then 1 else 0) ≤ h.deeds.length := by
  by_cases q : pend h = true
  · rw [if_pos q]
    unfold pend at q
    split at q
    · rename_i e
      have := (List.getElem?_eq_some_iff.mp e).1
      omega
    · cases q
  · rw [if_neg q]
    have := k.le
    omega
theorem Inv.ends_le (I : Inv xs ps s P) : s.ends.length ≤ total ps := by
  rw [len_own I.bound, total_range]
  refine sum_le fun i hi => ?_
  obtain ⟨h, hh⟩ : ∃ h, s.hands[i]? = some h := ⟨_, List.getElem?_eq_getElem (by rw [I.many]; exact hi)⟩
  have k := I.hand i h hh
  rw [k.own, List.length_range]
  have e : ps.getD i [] = h.deeds := by simp [List.getD, k.prog]
  rw [e]
  exact pend_le k
/-- while a hand's deed is open, fewer than all are decided -/
theorem Inv.ends_lt {d : Deed} (I : Inv xs ps s P) (hi : s.hands[i]? = some h) (hd : h.deeds[h.at_]? = some d) (np : pend h = false) : s.ends.length < total ps := by
  rw [len_own I.bound, total_range]
  have hl := lt_of_get hi
  rw [I.many] at hl
  have key : ∀ (f g : Nat → Nat) (n a : Nat), a < n → (∀ i, i < n → f i ≤ g i) → f a < g a → ((List.range n).map f).sum < ((List.range n).map g).sum := by
    intro f g n
    induction n with
    | zero =>
      intro a ha
      omega
    | succ n ih =>
      intro a ha hle hlt
      rw [List.range_succ, List.map_append, List.map_append, List.sum_append, List.sum_append]
      simp only [List.map_cons, List.map_nil, List.sum_cons, List.sum_nil]
      by_cases q : a = n
      · subst q
        have := sum_le (n := a) fun i hi => hle i (by omega)
        omega
      · have := ih a (by omega) (fun i hi => hle i (by omega)) hlt
        have := hle n (by omega)
        omega
  refine key _ _ _ i hl (fun j hj => ?_) ?_
  · obtain ⟨g, hg⟩ : ∃ g, s.hands[j]? = some g := ⟨_, List.getElem?_eq_getElem (by rw [I.many]; exact hj)⟩
    have k := I.hand j g hg
    rw [k.own, List.length_range]
    have e : ps.getD j [] = g.deeds := by simp [List.getD, k.prog]
    rw [e]
    exact pend_le k
  · have k := I.hand i h hi
    rw [k.own, List.length_range, np]
    have e : ps.getD i [] = h.deeds := by simp [List.getD, k.prog]
    rw [e]
    exact (List.getElem?_eq_some_iff.mp hd).1
end
end Sk


/-! By keeps, by marks of all hands and by a count more than the deeds no exchange is stale. -/
namespace Sk
open PySem PySem.Spec PyProof.Rows L2
section
variable {xs : List Int} {ps : List (List Deed)} {s : Mach} {P : List Nat} {i : Nat} {h : Hand} {r : Rule}
/-- some push has it -/
def PushHeld (s : Mach) (c : Nat) : Prop := ∃ (j : Nat) (g : Hand) (v : Int), s.hands[j]? = some g ∧ g.deeds[g.at_]? = some (.push v) ∧ g.cell = c
theorem Inv.topIn (I : Inv xs ps s P) (h0 : s.top ≠ 0) : s.top ∈ P := by
  have c := I.chain
  cases P with
  | nil => exact absurd c h0
  | cons d P => exact c.1 ▸ List.mem_cons_self
theorem Inv.topFree (I : Inv xs ps s P) (h0 : s.top ≠ 0) : 1 ≤ s.top ∧ s.top ≤ s.links.length ∧ ¬ PushHeld s s.top ∧ s.top ∉ s.free := by
  obtain ⟨a, b, c, d⟩ := I.pileIn (I.topIn h0)
  refine ⟨b, c, ?_, a⟩
  rintro ⟨j, g, v, hj, _, e⟩
  exact I.cellNot d h0 hj e
theorem held_set_cases {h' : Hand} {t : Nat} (hi : s.hands[i]? = some h) {s' : Mach} (eh : s'.hands = s.hands.set i h') (np : ¬ PushHeld s t) (own : ∀ v, h'.deeds[h'.at_]? = some (.push v) → h'.cell ≠ t) : ¬ PushHeld s' t := by
  rintro ⟨j, g, v, hj, hd, hc⟩
  rw [eh] at hj
  rcases get_set_cases (lt_of_get hi) hj with ⟨rfl, rfl⟩ | ⟨n, hj⟩
  · exact own v hd hc
  · exact np ⟨j, g, v, hj, hd, hc⟩
/-- a cell that no push has, and that is not taken, stays as it is -/
theorem Go.fix {st : Stp} {s' : Mach} {t : Nat} (I : Inv xs ps s P) (hi : s.hands[i]? = some h) (G : Go r s i h st s') (t1 : 1 ≤ t) (tn : t ≤ s.links.length) (np : ¬ PushHeld s t) (nt : ∀ c, st = .takes c → c ≠ t) :
    t ≤ s'.links.length ∧ ¬ PushHeld s' t ∧ linkAt s'.links t = linkAt s.links t := by
  have base : ∀ v, h.deeds[h.at_]? = some (.push v) → h.cell ≠ t := fun v hd q => np ⟨i, h, v, hi, hd, q⟩
  have did : ∀ a v, (h.did a).deeds[(h.did a).at_]? = some (.push v) → (h.did a).cell ≠ t := fun a v _ q => by
    have q2 : 0 = t := q
    omega
  cases G with
  | rests e => exact ⟨tn, np, rfl⟩
  | takesNew v e hc hp =>
    refine ⟨by show t ≤ (s.links ++ [0]).length; rw [List.length_append]; omega, held_set_cases hi (h' := { h with cell := s.vals.length + 1 }) rfl np fun u hd q => ?_, linkAt_append t1 tn⟩
    exact nt _ rfl q
  | takesFree v c e hc hp => exact ⟨tn, held_set_cases hi (h' := { h with cell := c }) rfl np fun u hd q => nt _ rfl q, rfl⟩
  | readsPush v e hc hs => exact ⟨tn, held_set_cases hi (h' := { h with seen := some (s.top, s.count) }) rfl np base, rfl⟩
  | links v t2 kk e hc hs hf =>
    exact ⟨by show t ≤ (s.links.set (h.cell - 1) t2).length; rw [List.length_set]; exact tn, held_set_cases hi (h' := { h with follow := some t2 }) rfl np base, linkAt_set (by omega) t1 (base v e)⟩
  | pushes v f e hc hs hf => exact ⟨tn, held_set_cases hi (h' := h.did (.str "done")) rfl np (did _), rfl⟩
  | missPush v t2 kk f e hc hs hf n => exact ⟨tn, held_set_cases hi (h' := h.again) rfl np base, rfl⟩
  | meets e hs ht => exact ⟨tn, held_set_cases hi (h' := h.did .non) rfl np (did _), rfl⟩
  | readsPop e hs ht => exact ⟨tn, held_set_cases hi (h' := { h with seen := some (s.top, s.count) }) rfl np base, rfl⟩
  | lets t2 kk e hs hc => exact ⟨tn, held_set_cases hi (h' := h.did (.int (valAt s.vals h.cell))) rfl np (did _), rfl⟩
  | marks t2 kk e hs hc hm hl hk => exact ⟨tn, held_set_cases hi (h' := { h with mark := t2 }) rfl np base, rfl⟩
  | looks t2 kk e hs hc hm hl hk ht => exact ⟨tn, held_set_cases hi (h' := { h with looked := true }) rfl np base, rfl⟩
  | looksNot t2 kk e hs hc hm hl hk ht => exact ⟨tn, held_set_cases hi (h' := h.again) rfl np base, rfl⟩
  | follows t2 kk e hs hc hm hf => exact ⟨tn, held_set_cases hi (h' := { h with follow := some (linkAt s.links t2) }) rfl np base, rfl⟩
  | pops f e hs hc hm hf =>
    refine ⟨tn, held_set_cases hi (h' := { h with cell := s.top }) rfl np fun u hd => ?_, rfl⟩
    have q := e.symm.trans (show h.deeds[h.at_]? = some (.push u) from hd)
    cases q
  | missPop t2 kk f e hs hc hm hf n => exact ⟨tn, held_set_cases hi (h' := h.again) rfl np base, rfl⟩
/-- what a hand that pops has read still is as it was, if the rule lets it go on -/
def Fast (s : Mach) (h : Hand) (t : Nat) : Prop := t ≤ s.links.length ∧ ¬ PushHeld s t ∧ ∀ f, h.follow = some f → linkAt s.links t = f
def Guard (r : Rule) (s : Mach) (h : Hand) (t k : Nat) : Prop := match r with
  | .keeps => Fast s h t
  | .marks _ => (h.follow ≠ none → h.looked = true) ∧ (h.looked = true → h.mark = t ∧ Fast s h t)
  | .counts _ => k ≤ s.count ∧ (k = s.count → t = s.top ∧ Fast s h t)
structure Safe (r : Rule) (s : Mach) : Prop where
  all : ∀ (i : Nat) (h : Hand), s.hands[i]? = some h → h.deeds[h.at_]? = some .pop → h.cell = 0 → ∀ t k, h.seen = some (t, k) → Guard r s h t k
  low : ∀ m, r = .counts m → s.count ≤ s.ends.length
def Good (r : Rule) (ps : List (List Deed)) : Prop := match r with
  | .keeps => True
  | .marks hs => ∀ i, i < ps.length → i ∈ hs
  | .counts m => total ps < m
theorem bump_low (m : Nat) (g : Good (.counts m) ps) {e n : Nat} (h : n ≤ e) (l : e < total ps) : bump (.counts m) n = n + 1 := by
  have : total ps < m := g
  unfold bump
  exact Nat.mod_eq_of_lt (by omega)
/-- the count and the top of a step that exchanges nothing -/
theorem Go.top {st : Stp} {s' : Mach} (G : Go r s i h st s') : (s'.top = s.top ∧ s'.count = s.count ∧ s.ends.length ≤ s'.ends.length) ∨ (s'.count = bump r s.count ∧ s'.ends.length = s.ends.length + 1 ∧ pend h = false ∧ ∃ d, h.deeds[h.at_]? = some d) := by
  cases G with
  | pushes v f e hc hs hf => exact .inr ⟨rfl, by simp, pend_push e, _, e⟩
  | pops f e hs hc hm hf => exact .inr ⟨rfl, by simp, by rw [pend_pop e]; exact decide_eq_false (by omega), _, e⟩
  | meets e hs ht => exact .inl ⟨rfl, rfl, by simp⟩
  | _ => exact .inl ⟨rfl, rfl, Nat.le_refl _⟩
theorem Guard.other {st : Stp} {s' : Mach} {j : Nat} {g : Hand} {t k : Nat} (gd : Good r ps) (I : Inv xs ps s P) (S : Safe r s) (hi : s.hands[i]? = some h) (G : Go r s i h st s') (hj : s.hands[j]? = some g) (q : Guard r s g t k) (t0 : t ≠ 0) : Guard r s' g t k := by
  have fix : Fast s g t → (∀ c, st = .takes c → c ≠ t) → Fast s' g t := fun F nt => by
    obtain ⟨a, b, c⟩ := G.fix I hi (t := t) (by omega) F.1 F.2.1 nt
    exact ⟨a, b, fun f hf => c.trans (F.2.2 f hf)⟩
  have newT : t ≤ s.links.length → s.vals.length + 1 ≠ t := fun l => by
    rw [I.len]
    omega
  cases r with
  | keeps =>
    refine fix q fun c e => ?_
    subst e
    cases G with
    | takesNew v e hc hp => exact newT q.1
    | takesFree v c e hc hp => cases hp
  | marks hs =>
    refine ⟨q.1, fun hl => ?_⟩
    obtain ⟨qm, F⟩ := q.2 hl
    refine ⟨qm, fix F fun c e => ?_⟩
    subst e
    cases G with
    | takesNew v e hc hp => exact newT F.1
    | takesFree v c e hc hp => exact fun z => pick_marks hp g (List.mem_of_getElem? hj) (qm.trans z.symm)
  | counts m =>
    obtain ⟨q1, q2⟩ := q
    rcases G.top with ⟨e1, e2, _⟩ | ⟨e1, e2, np, d, hd⟩
    · refine ⟨by omega, fun z => ?_⟩
      obtain ⟨et, F⟩ := q2 (by omega)
      refine ⟨by omega, fix F fun c e => ?_⟩
      subst e
      cases G with
      | takesNew v e hc hp => exact newT F.1
      | takesFree v c e hc hp =>
        intro z
        have := (I.topFree (by omega)).2.2.2
        rw [← et, ← z] at this
        exact this (pick_mem hp)
    · have lo := S.low m rfl
      have lt := I.ends_lt hi hd np
      rw [bump_low m gd lo lt] at e1
      exact ⟨by omega, fun z => by omega⟩
theorem Fast.of_top (I : Inv xs ps s P) (h0 : s.top ≠ 0) {g : Hand} (hf : g.follow = none) : Fast s g s.top := by
  obtain ⟨a, b, c, d⟩ := I.topFree h0
  exact ⟨b, c, fun f z => by rw [hf] at z; cases z⟩
theorem Fast.hand {s' : Mach} {h' : Hand} {t : Nat} (F : Fast s h t) (hi : s.hands[i]? = some h) (eh : s'.hands = s.hands.set i h') (el : s'.links = s.links) (ed : h'.deeds = h.deeds) (ea : h'.at_ = h.at_) (e : h.deeds[h.at_]? = some .pop)
    (ef : ∀ f, h'.follow = some f → linkAt s.links t = f) : Fast s' h' t := by
  refine ⟨by rw [el]; exact F.1, held_set_cases hi eh F.2.1 fun v hd => ?_, fun f hf => by rw [el]; exact ef f hf⟩
  rw [ed, ea, e] at hd
  cases hd
theorem Safe.go {st : Stp} {s' : Mach} (gd : Good r ps) (I : Inv xs ps s P) (S : Safe r s) (n0 : s.stale = false) (hi : s.hands[i]? = some h) (G : Go r s i h st s') : s'.stale = false ∧ Safe r s' := by
  have k := I.hand i h hi
  have hl := lt_of_get hi
  have stale : s'.stale = false := by
    cases G with
    | pops f e hs hc hm hf =>
      have t0 := k.seen e _ _ hs
      have q := S.all i h hi e hc _ _ hs
      have ef : linkAt s.links s.top = f := by
        cases r with
        | keeps => exact q.2.2 f hf
        | marks hs => exact (q.2 (q.1 (by rw [hf]; simp))).2.2.2 f hf
        | counts m => exact (q.2 rfl).2.2.2 f hf
      show (s.stale || (linkAt s.links s.top != f)) = false
      rw [n0, ef]
      simp
    | _ => exact n0
  refine ⟨stale, ⟨?_, ?_⟩⟩
  · -- the hands
    have oth : ∀ h' : Hand, s'.hands = s.hands.set i h' → (h'.deeds[h'.at_]? = some .pop → h'.cell = 0 → ∀ t k, h'.seen = some (t, k) → Guard r s' h' t k) →
        ∀ (j : Nat) (g : Hand), s'.hands[j]? = some g → g.deeds[g.at_]? = some .pop → g.cell = 0 → ∀ t k, g.seen = some (t, k) → Guard r s' g t k := by
      intro h' eh own j g hj hd hc t kk hs
      rw [eh] at hj
      rcases get_set_cases hl hj with ⟨rfl, rfl⟩ | ⟨n, hj⟩
      · exact own hd hc t kk hs
      · exact Guard.other gd I S hi G hj (S.all j g hj hd hc t kk hs) ((I.hand j g hj).seen hd t kk hs)
    have noPush : ∀ {v : Int} {Q : Prop}, h.deeds[h.at_]? = some (.push v) → h.deeds[h.at_]? = some .pop → Q := fun a b => by
      have := a.symm.trans b
      cases this
    cases G with
    | rests e => exact S.all
    | takesNew v e hc hp => exact oth { h with cell := s.vals.length + 1 } rfl fun q => noPush e q
    | takesFree v c e hc hp => exact oth { h with cell := c } rfl fun q => noPush e q
    | readsPush v e hc hs => exact oth { h with seen := some (s.top, s.count) } rfl fun q => noPush e q
    | links v t kk e hc hs hf => exact oth { h with follow := some t } rfl fun q => noPush e q
    | pushes v f e hc hs hf => exact oth (h.did (.str "done")) rfl fun _ _ t kk z => by cases z
    | missPush v t kk f e hc hs hf n => exact oth h.again rfl fun _ _ t kk z => by cases z
    | meets e hs ht => exact oth (h.did .non) rfl fun _ _ t kk z => by cases z
    | lets t kk e hs hc => exact oth (h.did (.int (valAt s.vals h.cell))) rfl fun _ _ t kk z => by cases z
    | looksNot t kk e hs hc hm hl hk ht => exact oth h.again rfl fun _ _ t kk z => by cases z
    | missPop t kk f e hs hc hm hf n => exact oth h.again rfl fun _ _ t kk z => by cases z
    | pops f e hs hc hm hf => exact oth { h with cell := s.top } rfl fun _ z => absurd z (k.seen e _ _ hs)
    | readsPop e hs ht =>
      obtain ⟨nf, nl⟩ := k.fresh hs
      refine oth { h with seen := some (s.top, s.count) } rfl fun _ hc t kk z => ?_
      have z2 : (s.top, s.count) = (t, kk) := Option.some.inj z
      injection z2 with z3 z4
      subst z3 z4
      have F : Fast (s.put i { h with seen := some (s.top, s.count) }) { h with seen := some (s.top, s.count) } s.top := (Fast.of_top I ht (g := h) nf).hand hi rfl rfl rfl rfl e fun f hf => by
        rw [show h.follow = some f from hf] at nf
        cases nf
      cases r with
      | keeps => exact F
      | marks hs2 => exact ⟨fun w => absurd nf w, fun w => by rw [show h.looked = true from w] at nl; cases nl⟩
      | counts m => exact ⟨Nat.le_refl _, fun _ => ⟨rfl, F⟩⟩
    | marks t kk e hs hc hm hl2 hk =>
      refine oth { h with mark := t } rfl fun _ _ t2 k2 z => ?_
      have q := S.all i h hi e hc t2 k2 z
      cases r with
      | keeps => cases hm
      | counts m => cases hm
      | marks hs2 => exact ⟨q.1, fun w => by rw [show h.looked = true from w] at hl2; cases hl2⟩
    | looks t kk e hs hc hm hl2 hk ht =>
      refine oth { h with looked := true } rfl fun _ _ t2 k2 z => ?_
      have q := S.all i h hi e hc t2 k2 z
      have z2 : (t, kk) = (t2, k2) := Option.some.inj (hs.symm.trans z)
      injection z2 with z3 z4
      subst z3 z4
      cases r with
      | keeps => cases hm
      | counts m => cases hm
      | marks hs2 =>
        have nf : h.follow = none := Classical.byContradiction fun w => by
          rw [q.1 w] at hl2
          cases hl2
        refine ⟨fun _ => rfl, fun _ => ⟨hk, ?_⟩⟩
        have t0 := k.seen e _ _ hs
        rw [← ht]
        exact (Fast.of_top I (by rw [ht]; exact t0) (g := h) nf).hand hi rfl rfl rfl rfl e fun f hf => by
          rw [show h.follow = some f from hf] at nf
          cases nf
    | follows t kk e hs hc hm hf =>
      refine oth { h with follow := some (linkAt s.links t) } rfl fun _ _ t2 k2 z => ?_
      have q := S.all i h hi e hc t2 k2 z
      have z2 : (t, kk) = (t2, k2) := Option.some.inj (hs.symm.trans z)
      injection z2 with z3 z4
      subst z3 z4
      have up : Fast s h t → Fast (s.put i { h with follow := some (linkAt s.links t) }) { h with follow := some (linkAt s.links t) } t := fun F => F.hand hi rfl rfl rfl rfl e fun f hf => Option.some.inj hf
      cases r with
      | keeps => exact up q
      | marks hs2 =>
        have lk : h.looked = true := hm (by
          show hs2.contains i = true
          have := gd i (by rw [← I.many]; exact hl)
          simpa using this)
        exact ⟨fun _ => lk, fun _ => ⟨(q.2 lk).1, up (q.2 lk).2⟩⟩
      | counts m => exact ⟨q.1, fun w => ⟨(q.2 w).1, up (q.2 w).2⟩⟩
  · intro m e
    subst e
    have lo := S.low m rfl
    rcases G.top with ⟨_, e2, e3⟩ | ⟨e1, e2, np, d, hd⟩
    · omega
    · rw [e1, bump_low m gd lo (I.ends_lt hi hd np)]
      omega
end
end Sk


/-! All deeds come to an end, by every rule, stale or not. -/
namespace Sk
open PySem PySem.Spec PyProof.Rows L2
def costD : Deed → Nat
  | .push _ => 4
  | .pop => 6
def costs (ds : List Deed) : Nat := (ds.map costD).sum
/-- own steps of a pop that follows and exchanges -/
def rankF (top count : Nat) (h : Hand) (t k : Nat) : Nat := if top = t ∧ count = k then (if h.follow = none then 3 else 2) else (if h.follow = none then 8 else 7)
/-- own steps of the deed that is open, if no other hand exchanges -/
def rank (r : Rule) (top count i : Nat) (h : Hand) : Nat := match h.deeds[h.at_]? with
  | none => 0
  | some (.push _) => (if h.cell = 0 then 1 else 0) + (match h.seen with
    | none => 3
    | some (t, k) => if top = t ∧ count = k then (if h.follow = none then 2 else 1) else (if h.follow = none then 5 else 4))
  | some .pop => (match h.seen with
    | none => if top = 0 then 1 else 6
    | some (t, k) => if h.cell ≠ 0 then 1 else if mustMark r i = true ∧ h.looked = false then (if h.mark ≠ t then 1 else 0) + 1 + (if top = t then rankF top count h t k else 6) else rankF top count h t k)
/-- deeds that are not decided -/
def left (h : Hand) : Nat := h.deeds.length - (h.at_ + (if pend h = true then 1 else 0))
def psi1 (r : Rule) (n top count i : Nat) (h : Hand) : Nat := rank r top count i h + costs (h.deeds.drop (h.at_ + 1)) + 5 * n * left h
def psi (r : Rule) (n top count : Nat) : Nat → List Hand → Nat
  | _, [] => 0
  | i, h :: hs => psi1 r n top count i h + psi r n top count (i + 1) hs
def Mach.toDo (r : Rule) (s : Mach) : Nat := psi r s.hands.length s.top s.count 0 s.hands
section
variable {s : Mach} {i : Nat} {h : Hand} {r : Rule}
theorem psi_set {n top count : Nat} {h h' : Hand} : ∀ {hs : List Hand} {j k : Nat}, hs[j]? = some h → psi r n top count k (hs.set j h') + psi1 r n top count (k + j) h = psi r n top count k hs + psi1 r n top count (k + j) h'
  | [], j, k, e => by simp at e
  | g :: hs, 0, k, e => by
    simp at e
    subst e
    show psi1 r n top count k h' + psi r n top count (k + 1) hs + psi1 r n top count (k + 0) g = psi1 r n top count k g + psi r n top count (k + 1) hs + psi1 r n top count (k + 0) h'
    simp
    omega
  | g :: hs, j + 1, k, e => by
    have ih := psi_set (n := n) (top := top) (count := count) (h := h) (h' := h') (hs := hs) (j := j) (k := k + 1) (by simpa using e)
    show psi1 r n top count k g + psi r n top count (k + 1) (hs.set j h') + psi1 r n top count (k + (j + 1)) h = psi1 r n top count k g + psi r n top count (k + 1) hs + psi1 r n top count (k + (j + 1)) h'
    rw [show k + (j + 1) = k + 1 + j by omega]
    omega
theorem rankF_rise (top count top' count' : Nat) (h : Hand) (t k : Nat) : rankF top' count' h t k ≤ rankF top count h t k + 5 := by
  unfold rankF
  repeat' split
  all_goals omega
theorem rankF_le (top count : Nat) (h : Hand) (t k : Nat) : rankF top count h t k ≤ 8 ∧ 2 ≤ rankF top count h t k := by
  unfold rankF
  repeat' split
  all_goals omega
theorem rank_rise (top count top' count' : Nat) : rank r top' count' i h ≤ rank r top count i h + 5 := by
  unfold rank
  cases h.deeds[h.at_]? with
  | none => exact Nat.zero_le _
  | some d =>
    cases d with
    | push v =>
      dsimp only
      cases h.seen with
      | none => dsimp only; omega
      | some q =>
        obtain ⟨t, k⟩ := q
        dsimp only
        repeat' split
        all_goals omega
    | pop =>
      dsimp only
      cases h.seen with
      | none =>
        dsimp only
        repeat' split
        all_goals omega
      | some q =>
        obtain ⟨t, k⟩ := q
        dsimp only
        have a := rankF_rise top count top' count' h t k
        have b := rankF_le top count h t k
        have c := rankF_le top' count' h t k
        split
        · omega
        · split
          · repeat' split
            all_goals omega
          · omega
theorem psi_rise {n top count top' count' : Nat} : ∀ {hs : List Hand} {k : Nat}, psi r n top' count' k hs ≤ psi r n top count k hs + 5 * hs.length
  | [], _ => Nat.zero_le _
  | h :: hs, k => by
    have ih := psi_rise (n := n) (top := top) (count := count) (top' := top') (count' := count') (hs := hs) (k := k + 1)
    have q := rank_rise (r := r) (i := k) (h := h) top count top' count'
    show psi1 r n top' count' k h + psi r n top' count' (k + 1) hs ≤ psi1 r n top count k h + psi r n top count (k + 1) hs + 5 * (hs.length + 1)
    unfold psi1
    omega
/-- what holds in each state -/
structure Base (s : Mach) : Prop where
  free : ∀ c ∈ s.free, c ≠ 0
  seen : ∀ (i : Nat) (h : Hand), s.hands[i]? = some h → h.deeds[h.at_]? = some .pop → ∀ t k, h.seen = some (t, k) → t ≠ 0
  dim : ∀ (i : Nat) (h : Hand), s.hands[i]? = some h → h.seen = none → h.looked = false ∧ h.follow = none
theorem Base.mk2 {s' : Mach} {h' : Hand} (B : Base s) (hi : s.hands[i]? = some h) (eh : s'.hands = s.hands.set i h') (ef : ∀ c ∈ s'.free, c ≠ 0) (es : h'.deeds[h'.at_]? = some .pop → ∀ t k, h'.seen = some (t, k) → t ≠ 0) (ed : h'.seen = none → h'.looked = false ∧ h'.follow = none) : Base s' := by
  refine ⟨ef, fun j g hj => ?_, fun j g hj => ?_⟩
  · rw [eh] at hj
    rcases get_set_cases (lt_of_get hi) hj with ⟨rfl, rfl⟩ | ⟨n, hj⟩
    · exact es
    · exact B.seen j g hj
  · rw [eh] at hj
    rcases get_set_cases (lt_of_get hi) hj with ⟨rfl, rfl⟩ | ⟨n, hj⟩
    · exact ed
    · exact B.dim j g hj
theorem Base.go {st : Stp} {s' : Mach} (B : Base s) (hi : s.hands[i]? = some h) (G : Go r s i h st s') : Base s' := by
  have bs := B.seen i h hi
  have bd := B.dim i h hi
  cases G with
  | rests e => exact B
  | takesNew v e hc hp => exact B.mk2 (h' := { h with cell := s.vals.length + 1 }) hi rfl B.free bs bd
  | takesFree v c e hc hp => exact B.mk2 (h' := { h with cell := c }) hi rfl (fun d hd => B.free d (List.mem_of_mem_erase hd)) bs bd
  | readsPush v e hc hs => exact B.mk2 (h' := { h with seen := some (s.top, s.count) }) hi rfl B.free (fun q => by rw [show h.deeds[h.at_]? = some .pop from q] at e; cases e) (fun q => by cases q)
  | links v t k e hc hs hf => exact B.mk2 (h' := { h with follow := some t }) hi rfl B.free bs (fun q => by rw [show h.seen = none from q] at hs; cases hs)
  | pushes v f e hc hs hf => exact B.mk2 (h' := h.did (.str "done")) hi rfl B.free (fun _ t k q => by cases q) (fun _ => ⟨rfl, rfl⟩)
  | missPush v t k f e hc hs hf n => exact B.mk2 (h' := h.again) hi rfl B.free (fun _ t k q => by cases q) (fun _ => ⟨rfl, rfl⟩)
  | meets e hs ht => exact B.mk2 (h' := h.did .non) hi rfl B.free (fun _ t k q => by cases q) (fun _ => ⟨rfl, rfl⟩)
  | readsPop e hs ht =>
    refine B.mk2 (h' := { h with seen := some (s.top, s.count) }) hi rfl B.free (fun _ t k q => ?_) (fun q => by cases q)
    have q2 : (s.top, s.count) = (t, k) := Option.some.inj q
    injection q2 with q3 _
    omega
  | lets t k e hs hc =>
    refine B.mk2 (h' := h.did (.int (valAt s.vals h.cell))) hi rfl (fun d hd => ?_) (fun _ t k q => by cases q) (fun _ => ⟨rfl, rfl⟩)
    rcases List.mem_append.mp hd with hd | hd
    · exact B.free d hd
    · rw [List.mem_singleton.mp hd]
      exact hc
  | marks t k e hs hc hm hl hk => exact B.mk2 (h' := { h with mark := t }) hi rfl B.free bs bd
  | looks t k e hs hc hm hl hk ht => exact B.mk2 (h' := { h with looked := true }) hi rfl B.free bs (fun q => by rw [show h.seen = none from q] at hs; cases hs)
  | looksNot t k e hs hc hm hl hk ht => exact B.mk2 (h' := h.again) hi rfl B.free (fun _ t k q => by cases q) (fun _ => ⟨rfl, rfl⟩)
  | follows t k e hs hc hm hf => exact B.mk2 (h' := { h with follow := some (linkAt s.links t) }) hi rfl B.free bs (fun q => by rw [show h.seen = none from q] at hs; cases hs)
  | pops f e hs hc hm hf => exact B.mk2 (h' := { h with cell := s.top }) hi rfl B.free bs bd
  | missPop t k f e hs hc hm hf n => exact B.mk2 (h' := h.again) hi rfl B.free (fun _ t k q => by cases q) (fun _ => ⟨rfl, rfl⟩)
theorem Base.turn (B : Base s) : Base (turn r s i).2 := by
  cases hi : s.hands[i]? with
  | none =>
    rw [turn_none hi]
    exact B
  | some h =>
    rw [turn_some hi]
    exact B.go hi (go_kind r s i h)
theorem Base.play : ∀ {w : List Nat} {s : Mach}, Base s → Base (play r s w).2
  | [], _, B => B
  | _ :: w, _, B => Base.play (w := w) B.turn
theorem Base.begun (xs : List Int) (ps : List (List Deed)) : Base (Mach.begun xs ps) := by
  have key : ∀ (i : Nat) (h : Hand), (ps.map Hand.new)[i]? = some h → h.seen = none ∧ h.looked = false ∧ h.follow = none := by
    intro i h hi
    obtain ⟨ds, _, rfl⟩ := List.mem_map.mp (List.mem_of_getElem? hi)
    exact ⟨rfl, rfl, rfl⟩
  refine ⟨fun c h => (by cases h), fun i h hi _ t k q => ?_, fun i h hi _ => (key i h hi).2⟩
  rw [(key i h hi).1] at q
  cases q
/-! ### each step of a hand that has not done all brings the end nearer -/
theorem rank_new (top count j : Nat) (h : Hand) (a : V) : rank r top count j (h.did a) + costs ((h.did a).deeds.drop ((h.did a).at_ + 1)) ≤ costs (h.deeds.drop (h.at_ + 1)) := by
  show rank r top count j (h.did a) + costs (h.deeds.drop (h.at_ + 1 + 1)) ≤ _
  cases e : h.deeds[h.at_ + 1]? with
  | none =>
    have e2 : (h.did a).deeds[(h.did a).at_]? = none := e
    unfold rank
    rw [e2]
    have : h.deeds.length ≤ h.at_ + 1 := List.getElem?_eq_none_iff.mp e
    rw [List.drop_eq_nil_of_le this, List.drop_eq_nil_of_le (by omega)]
    exact Nat.zero_le _
  | some d =>
    have e2 : (h.did a).deeds[(h.did a).at_]? = some d := e
    have hl := (List.getElem?_eq_some_iff.mp e).1
    have ed : h.deeds[h.at_ + 1] = d := (List.getElem?_eq_some_iff.mp e).2
    rw [List.drop_eq_getElem_cons hl, ed]
    unfold costs
    rw [List.map_cons, List.sum_cons]
    unfold rank
    rw [e2]
    cases d with
    | push v =>
      show (if (0 : Nat) = 0 then 1 else 0) + 3 + _ ≤ 4 + _
      simp
    | pop =>
      show (if top = 0 then 1 else 6) + _ ≤ 6 + _
      split <;> omega
theorem left_did (a : V) {d : Deed} (hd : h.deeds[h.at_]? = some d) (np : pend h = false) : left (h.did a) + 1 = left h := by
  have hl := (List.getElem?_eq_some_iff.mp hd).1
  unfold left
  rw [pend_did, np]
  show h.deeds.length - (h.at_ + 1 + (if false = true then 1 else 0)) + 1 = h.deeds.length - (h.at_ + (if false = true then 1 else 0))
  simp
  omega
theorem left_lets (a : V) (hp : pend h = true) : left (h.did a) = left h := by
  unfold left
  rw [pend_did, hp]
  show h.deeds.length - (h.at_ + 1 + (if false = true then 1 else 0)) = h.deeds.length - (h.at_ + (if true = true then 1 else 0))
  simp
/-- a hand's own part of what is to do gets less, top and count unchanged -/
theorem less_own {s' : Mach} {h' : Hand} (hi : s.hands[i]? = some h) (eh : s'.hands = s.hands.set i h') (et : s'.top = s.top) (ec : s'.count = s.count)
    (lt : psi1 r s.hands.length s.top s.count i h' < psi1 r s.hands.length s.top s.count i h) : s'.toDo r < s.toDo r := by
  have e := psi_set (r := r) (n := s.hands.length) (top := s.top) (count := s.count) (h := h) (h' := h') (hs := s.hands) (j := i) (k := 0) hi
  unfold Mach.toDo
  rw [eh, List.length_set, et, ec]
  rw [Nat.zero_add] at e
  omega
theorem less_ex {s' : Mach} {h' : Hand} (hi : s.hands[i]? = some h) (eh : s'.hands = s.hands.set i h')
    (lt : psi1 r s.hands.length s.top s.count i h' + 5 * s.hands.length < psi1 r s.hands.length s.top s.count i h) : s'.toDo r < s.toDo r := by
  have e := psi_set (r := r) (n := s.hands.length) (top := s.top) (count := s.count) (h := h) (h' := h') (hs := s.hands) (j := i) (k := 0) hi
  have q := psi_rise (r := r) (n := s.hands.length) (top := s.top) (count := s.count) (top' := s'.top) (count' := s'.count) (hs := s.hands.set i h') (k := 0)
  unfold Mach.toDo
  rw [eh, List.length_set]
  rw [Nat.zero_add] at e
  rw [List.length_set] at q
  omega
theorem rank_push {top count : Nat} {h : Hand} {v : Int} (e : h.deeds[h.at_]? = some (.push v)) : rank r top count i h = (if h.cell = 0 then 1 else 0) + (match h.seen with
    | none => 3
    | some (t, k) => if top = t ∧ count = k then (if h.follow = none then 2 else 1) else (if h.follow = none then 5 else 4)) := by
  unfold rank
  rw [e]
theorem rank_pop0 {top count : Nat} {h : Hand} (e : h.deeds[h.at_]? = some .pop) (hs : h.seen = none) : rank r top count i h = if top = 0 then 1 else 6 := by
  unfold rank
  rw [e]
  dsimp only
  rw [hs]
theorem rank_pop {top count t k : Nat} {h : Hand} (e : h.deeds[h.at_]? = some .pop) (hs : h.seen = some (t, k)) : rank r top count i h = if h.cell ≠ 0 then 1 else if mustMark r i = true ∧ h.looked = false then (if h.mark ≠ t then 1 else 0) + 1 + (if top = t then rankF top count h t k else 6) else rankF top count h t k := by
  unfold rank
  rw [e]
  dsimp only
  rw [hs]
/-- the same deed, the same cell -/
theorem less_same {s' : Mach} {h' : Hand} (hi : s.hands[i]? = some h) (eh : s'.hands = s.hands.set i h') (et : s'.top = s.top) (ec : s'.count = s.count) (ed : h'.deeds = h.deeds) (ea : h'.at_ = h.at_) (ep : pend h' = pend h)
    (lt : rank r s.top s.count i h' < rank r s.top s.count i h) : s'.toDo r < s.toDo r := by
  refine less_own hi eh et ec ?_
  unfold psi1 left
  rw [ed, ea, ep]
  omega
theorem Go.less {st : Stp} {s' : Mach} (B : Base s) (hi : s.hands[i]? = some h) (G : Go r s i h st s') (op : h.deeds[h.at_]? ≠ none) : s'.toDo r < s.toDo r := by
  have bd := B.dim i h hi
  have bs := B.seen i h hi
  cases G with
  | rests e => exact absurd e op
  | takesNew v e hc hp =>
    refine less_same (h' := { h with cell := s.vals.length + 1 }) hi rfl rfl rfl rfl rfl ((pend_push (h := { h with cell := s.vals.length + 1 }) e).trans (pend_push e).symm) ?_
    rw [rank_push (h := { h with cell := s.vals.length + 1 }) e, rank_push e, if_pos hc, if_neg (by show ¬ (s.vals.length + 1 = 0); omega)]
    exact Nat.add_lt_add_right Nat.zero_lt_one _
  | takesFree v c e hc hp =>
    have c0 := B.free c (pick_mem hp)
    refine less_same (h' := { h with cell := c }) hi rfl rfl rfl rfl rfl ((pend_push (h := { h with cell := c }) e).trans (pend_push e).symm) ?_
    rw [rank_push (h := { h with cell := c }) e, rank_push e, if_pos hc, if_neg (show ¬ (c = 0) from c0)]
    exact Nat.add_lt_add_right Nat.zero_lt_one _
  | readsPush v e hc hs =>
    have nf := (bd hs).2
    refine less_same (h' := { h with seen := some (s.top, s.count) }) hi rfl rfl rfl rfl rfl rfl ?_
    rw [rank_push (h := { h with seen := some (s.top, s.count) }) e, rank_push e, if_neg hc, hs]
    show 0 + (if s.top = s.top ∧ s.count = s.count then (if h.follow = none then 2 else 1) else _) < 0 + 3
    rw [if_pos ⟨rfl, rfl⟩, if_pos nf]
    omega
  | links v t k e hc hs hf =>
    refine less_same (h' := { h with follow := some t }) hi rfl rfl rfl rfl rfl rfl ?_
    rw [rank_push (h := { h with follow := some t }) e, rank_push e, if_neg hc, hs]
    dsimp only
    rw [if_neg (show ¬ (some t = none) by simp), if_neg (show ¬ (some t = none) by simp), hf]
    split <;> simp
  | pushes v f e hc hs hf =>
    refine less_ex (h' := h.did (.str "done")) hi rfl ?_
    have a := rank_new (r := r) s.top s.count i h (.str "done")
    have b := left_did (.str "done") e (pend_push e)
    have c : 1 ≤ rank r s.top s.count i h := by
      rw [rank_push e, hs]
      dsimp only
      repeat' split
      all_goals omega
    unfold psi1
    rw [← b, Nat.mul_add, Nat.mul_one]
    omega
  | missPush v t k f e hc hs hf n =>
    refine less_same (h' := h.again) hi rfl rfl rfl rfl rfl rfl ?_
    rw [rank_push (h := h.again) e, rank_push e, if_neg hc, hs]
    dsimp only
    rw [if_neg n, hf, if_neg (show ¬ (some f = none) by simp)]
    show (if h.cell = 0 then 1 else 0) + 3 < 0 + 4
    rw [if_neg hc]
    omega
  | meets e hs ht =>
    refine less_own (h' := h.did .non) hi rfl rfl rfl ?_
    have a := rank_new (r := r) s.top s.count i h .non
    have b : left (h.did .non) ≤ left h := by
      cases q : pend h with
      | false =>
        have := left_did .non e q
        omega
      | true => exact Nat.le_of_eq (left_lets .non q)
    have c : 1 ≤ rank r s.top s.count i h := by
      rw [rank_pop0 e hs, if_pos ht]
      exact Nat.le_refl _
    have d := Nat.mul_le_mul_left (5 * s.hands.length) b
    unfold psi1
    omega
  | readsPop e hs ht =>
    have nf := (bd hs).2
    refine less_same (h' := { h with seen := some (s.top, s.count) }) hi rfl rfl rfl rfl rfl rfl ?_
    rw [rank_pop (h := { h with seen := some (s.top, s.count) }) e rfl, rank_pop0 e hs, if_neg ht, if_pos rfl]
    have q : rankF s.top s.count { h with seen := some (s.top, s.count) } s.top s.count = 3 := by
      unfold rankF
      rw [if_pos ⟨rfl, rfl⟩, if_pos (show h.follow = none from nf)]
    rw [q]
    repeat' split
    all_goals omega
  | lets t k e hs hc =>
    have hpd : pend h = true := by rw [pend_pop e]; exact decide_eq_true hc
    refine less_own (h' := h.did (.int (valAt s.vals h.cell))) hi rfl rfl rfl ?_
    have a := rank_new (r := r) s.top s.count i h (.int (valAt s.vals h.cell))
    have b := left_lets (h := h) (.int (valAt s.vals h.cell)) hpd
    have c : 1 ≤ rank r s.top s.count i h := by
      rw [rank_pop e hs, if_pos hc]
      exact Nat.le_refl _
    unfold psi1
    rw [b]
    omega
  | marks t k e hs hc hm hl hk =>
    refine less_same (h' := { h with mark := t }) hi rfl rfl rfl rfl rfl rfl ?_
    rw [rank_pop (h := { h with mark := t }) e hs, rank_pop e hs, if_neg (show ¬ (h.cell ≠ 0) by omega), if_neg (show ¬ (h.cell ≠ 0) by omega), if_pos ⟨hm, hl⟩, if_pos (show mustMark r i = true ∧ h.looked = false from ⟨hm, hl⟩), if_pos hk, if_neg (show ¬ (t ≠ t) from fun z => z rfl)]
    have q : rankF s.top s.count { h with mark := t } t k = rankF s.top s.count h t k := rfl
    rw [q]
    omega
  | looks t k e hs hc hm hl hk ht =>
    refine less_same (h' := { h with looked := true }) hi rfl rfl rfl rfl rfl rfl ?_
    rw [rank_pop (h := { h with looked := true }) e hs, rank_pop e hs, if_neg (show ¬ (h.cell ≠ 0) by omega), if_neg (show ¬ (h.cell ≠ 0) by omega), if_neg (show ¬ (mustMark r i = true ∧ true = false) from fun z => Bool.noConfusion z.2), if_pos (show mustMark r i = true ∧ h.looked = false from ⟨hm, hl⟩), if_pos ht]
    have q : rankF s.top s.count { h with looked := true } t k = rankF s.top s.count h t k := rfl
    rw [q]
    omega
  | looksNot t k e hs hc hm hl hk ht =>
    refine less_same (h' := h.again) hi rfl rfl rfl rfl rfl rfl ?_
    rw [rank_pop0 (h := h.again) e rfl, rank_pop e hs, if_neg (show ¬ (h.cell ≠ 0) by omega), if_pos (show mustMark r i = true ∧ h.looked = false from ⟨hm, hl⟩), if_neg (show ¬ (s.top = t) from ht)]
    repeat' split
    all_goals omega
  | follows t k e hs hc hm hf =>
    refine less_same (h' := { h with follow := some (linkAt s.links t) }) hi rfl rfl rfl rfl rfl rfl ?_
    rw [rank_pop (h := { h with follow := some (linkAt s.links t) }) e hs, rank_pop e hs, if_neg (show ¬ (h.cell ≠ 0) by omega), if_neg (show ¬ (h.cell ≠ 0) by omega), if_neg (show ¬ (mustMark r i = true ∧ h.looked = false) from fun z => by rw [hm z.1] at z; exact Bool.noConfusion z.2), if_neg (fun z => by rw [hm z.1] at z; exact Bool.noConfusion z.2)]
    unfold rankF
    rw [if_neg (show ¬ (some (linkAt s.links t) = none) by simp), if_neg (show ¬ (some (linkAt s.links t) = none) by simp), if_pos hf, if_pos hf]
    split <;> omega
  | pops f e hs hc hm hf =>
    have t0 := bs e _ _ hs
    refine less_ex (h' := { h with cell := s.top }) hi rfl ?_
    have e2 : pend h = false := by rw [pend_pop e]; exact decide_eq_false (by omega)
    have e3 : pend { h with cell := s.top } = true := by rw [pend_pop (h := { h with cell := s.top }) e]; exact decide_eq_true t0
    have hl := (List.getElem?_eq_some_iff.mp e).1
    have b : left { h with cell := s.top } + 1 = left h := by
      unfold left
      rw [e2, e3]
      show h.deeds.length - (h.at_ + (if true = true then 1 else 0)) + 1 = h.deeds.length - (h.at_ + (if false = true then 1 else 0))
      simp
      omega
    have c : 2 ≤ rank r s.top s.count i h := by
      rw [rank_pop e hs, if_neg (show ¬ (h.cell ≠ 0) by omega)]
      have := (rankF_le s.top s.count h s.top s.count).2
      split
      · repeat' split
        all_goals omega
      · exact this
    have d : rank r s.top s.count i { h with cell := s.top } = 1 := by
      rw [rank_pop (h := { h with cell := s.top }) e hs, if_pos t0]
    unfold psi1
    rw [d, ← b, Nat.mul_add, Nat.mul_one]
    show 1 + costs (h.deeds.drop (h.at_ + 1)) + _ + _ < _
    omega
  | missPop t k f e hs hc hm hf n =>
    refine less_same (h' := h.again) hi rfl rfl rfl rfl rfl rfl ?_
    rw [rank_pop0 (h := h.again) e rfl, rank_pop e hs, if_neg (show ¬ (h.cell ≠ 0) by omega), if_neg (show ¬ (mustMark r i = true ∧ h.looked = false) from fun z => by rw [hm z.1] at z; exact Bool.noConfusion z.2)]
    have q : rankF s.top s.count h t k = 7 := by
      unfold rankF
      rw [if_neg n, hf, if_neg (show ¬ (some f = none) by simp)]
    rw [q]
    split <;> omega
theorem turn_le (B : Base s) : (turn r s i).2.toDo r ≤ s.toDo r := by
  cases hi : s.hands[i]? with
  | none =>
    rw [turn_none hi]
    exact Nat.le_refl _
  | some h =>
    rw [turn_some hi]
    by_cases op : h.deeds[h.at_]? = none
    · have : go r s i h = (.rests, s) := by
        unfold Sk.go
        rw [op]
      rw [this]
      exact Nat.le_refl _
    · exact Nat.le_of_lt ((go_kind r s i h).less B hi op)
theorem turn_lt (B : Base s) (hi : s.hands[i]? = some h) (op : h.at_ < h.deeds.length) : (turn r s i).2.toDo r < s.toDo r := by
  rw [turn_some hi]
  refine (go_kind r s i h).less B hi fun z => ?_
  have := List.getElem?_eq_none_iff.mp z
  omega
end
end Sk


/-! The pile, read from the top down. -/
namespace Sk
open PySem PySem.Spec PyProof.Rows L2
/-- unlike numbers of 1 to n are at most n -/
theorem few_of_nodup {n : Nat} : ∀ {l : List Nat}, l.Nodup → (∀ c ∈ l, 1 ≤ c ∧ c ≤ n) → l.length ≤ n := by
  induction n with
  | zero =>
    intro l _ h
    cases l with
    | nil => exact Nat.le_refl _
    | cons a l =>
      have := h a List.mem_cons_self
      omega
  | succ n ih =>
    intro l nd h
    have h2 : (l.erase (n + 1)).length ≤ n := by
      refine ih (nd.erase _) fun c hc => ?_
      have h3 := h c (List.mem_of_mem_erase hc)
      have h4 : c ≠ n + 1 := fun q => by
        rw [q] at hc
        exact (List.Nodup.mem_erase_iff nd).mp hc |>.1 rfl
      omega
    have h5 : l.length ≤ (l.erase (n + 1)).length + 1 := by
      by_cases hm : n + 1 ∈ l
      · rw [List.length_erase_of_mem hm]
        omega
      · rw [List.erase_of_not_mem hm]
        omega
    omega
/-- where the walk down stands: what was found, the cell it is at -/
structure Walk (ls : List Nat) (n : Nat) (acc : List Nat) (t : Nat) : Prop where
  nd : acc.Nodup
  bd : ∀ c ∈ acc, 1 ≤ c ∧ c ≤ n
  le : t ≤ n
theorem Walk.next {ls : List Nat} {n t : Nat} {acc : List Nat} (w : Walk ls n acc t) (h0 : t ≠ 0) (hn : t ∉ acc) (hl : ∀ c ∈ ls, c ≤ n) : Walk ls n (acc ++ [t]) (linkAt ls t) := by
  refine ⟨?_, fun c hc => ?_, ?_⟩
  · rw [List.nodup_append]
    exact ⟨w.nd, List.nodup_cons.mpr ⟨by simp, List.nodup_nil⟩, fun a ha b hb q => hn (by rw [List.mem_singleton.mp hb] at q; exact q ▸ ha)⟩
  · rcases List.mem_append.mp hc with q | q
    · exact w.bd c q
    · rw [List.mem_singleton.mp q]
      exact ⟨by omega, w.le⟩
  · unfold linkAt
    by_cases h : t - 1 < ls.length
    · simp only [List.getD, List.getElem?_eq_getElem h, Option.getD_some]
      exact hl _ (List.getElem_mem h)
    · simp [List.getD, List.getElem?_eq_none_iff.mpr (Nat.le_of_not_lt h)]
theorem Walk.len {ls : List Nat} {n t : Nat} {acc : List Nat} (w : Walk ls n acc t) : acc.length ≤ n := few_of_nodup w.nd w.bd
/-- more steps than there are cells change nothing -/
theorem pileFrom_stop {ls : List Nat} {t : Nat} {acc : List Nat} (m : Nat) (h : t = 0 ∨ t ∈ acc) : pileFrom ls m acc t = acc := by
  cases m with
  | zero => rfl
  | succ m =>
    unfold pileFrom
    rw [if_pos h]
theorem pileFrom_step {ls : List Nat} {t m : Nat} {acc : List Nat} (h0 : t ≠ 0) (hn : t ∉ acc) : pileFrom ls (m + 1) acc t = pileFrom ls m (acc ++ [t]) (linkAt ls t) := by
  show (if t = 0 ∨ t ∈ acc then acc else pileFrom ls m (acc ++ [t]) (linkAt ls t)) = _
  rw [if_neg (by rintro (q | q); exact h0 q; exact hn q)]
theorem pileFrom_more {ls : List Nat} {n : Nat} (hl : ∀ c ∈ ls, c ≤ n) : ∀ (m k : Nat) {acc : List Nat} {t : Nat}, Walk ls n acc t → n + 1 ≤ acc.length + m → m ≤ k → pileFrom ls k acc t = pileFrom ls m acc t
  | 0, k, acc, t, w, h, _ => by
    have := w.len
    omega
  | m + 1, 0, acc, t, w, h, hk => by omega
  | m + 1, k + 1, acc, t, w, h, hk => by
    by_cases q : t = 0 ∨ t ∈ acc
    · rw [pileFrom_stop _ q, pileFrom_stop _ q]
    · rw [not_or] at q
      rw [pileFrom_step q.1 q.2, pileFrom_step q.1 q.2]
      exact pileFrom_more hl m k (w.next q.1 q.2 hl) (by rw [List.length_append]; show n + 1 ≤ acc.length + 1 + m; omega) (by omega)
/-- as long as no exchange was stale the walk finds the pile itself -/
theorem pileFrom_chain {ls : List Nat} : ∀ (P acc : List Nat) (t m : Nat), Chain ls t P → (∀ c ∈ P, c ∉ acc) → P.Nodup → P.length < m → pileFrom ls m acc t = acc ++ P
  | [], acc, t, m, h, _, _, _ => by
    rw [pileFrom_stop m (.inl h), List.append_nil]
  | c :: P, acc, t, 0, h, d, n, l => by simp at l
  | c :: P, acc, t, m + 1, h, d, n, l => by
    obtain ⟨rfl, c0, ch⟩ := h
    obtain ⟨n1, n2⟩ := List.nodup_cons.mp n
    rw [pileFrom_step c0 (d _ List.mem_cons_self), pileFrom_chain P (acc ++ [t]) _ m ch (fun x hx q => ?_) n2 (by simp at l; omega), List.append_assoc]
    · rfl
    · rcases List.mem_append.mp q with q | q
      · exact d x (List.mem_cons_of_mem _ hx) q
      · rw [List.mem_singleton.mp q] at hx
        exact n1 hx
theorem Inv.pile {xs : List Int} {ps : List (List Deed)} {s : Mach} {P : List Nat} (I : Inv xs ps s P) : s.pile = P := by
  have nd : P.Nodup := by
    rw [List.nodup_iff_count]
    intro c
    have := I.each c
    split at this <;> omega
  have hl : P.length ≤ s.links.length := few_of_nodup nd fun c hc => ⟨(I.pileIn hc).2.1, (I.pileIn hc).2.2.1⟩
  unfold Mach.pile
  rw [pileFrom_chain P [] s.top _ I.chain (fun c _ => by simp) nd (by omega)]
  rfl
end Sk


namespace Sk
open PySem PySem.Spec PyProof.Rows L2
/-- numbers in their bounds -/
structure Bnd (n : Nat) (s : Mach) : Prop where
  len : s.vals.length = s.links.length
  few : s.vals.length ≤ n ∧ s.free.length ≤ n ∧ s.ends.length ≤ n ∧ ∀ h ∈ s.hands, h.said.length ≤ n
  free : ∀ c ∈ s.free, 1 ≤ c ∧ c ≤ s.vals.length
  top : s.top ≤ s.vals.length
  links : ∀ c ∈ s.links, c ≤ s.vals.length
  hands : ∀ h ∈ s.hands, h.cell ≤ s.vals.length ∧ (∀ t k, h.seen = some (t, k) → t ≤ s.vals.length) ∧ ∀ f, h.follow = some f → f ≤ s.vals.length

section
variable {s : Mach} {i : Nat} {h : Hand} {r : Rule} {n : Nat}
theorem mem_set {hs : List Hand} {i : Nat} {h' g : Hand} (m : g ∈ hs.set i h') : g ∈ hs ∨ g = h' := by
  obtain ⟨j, hj, e⟩ := List.mem_iff_getElem.mp m
  rw [List.getElem_set] at e
  split at e
  · exact .inr e.symm
  · rw [List.length_set] at hj
    exact .inl (e ▸ List.getElem_mem _)
/-- one hand changes, nothing else -/
theorem Bnd.put {h' : Hand} (B : Bnd n s) (hs : h'.said.length ≤ n) (hc : h'.cell ≤ s.vals.length ∧ (∀ t k, h'.seen = some (t, k) → t ≤ s.vals.length) ∧ ∀ f, h'.follow = some f → f ≤ s.vals.length) : Bnd n (s.put i h') := by
  refine ⟨B.len, ⟨B.few.1, B.few.2.1, B.few.2.2.1, fun g hg => ?_⟩, B.free, B.top, B.links, fun g hg => ?_⟩
  · rcases mem_set hg with z | z
    · exact B.few.2.2.2 g z
    · rw [z]; exact hs
  · rcases mem_set hg with z | z
    · exact B.hands g z
    · rw [z]; exact hc
theorem Bnd.up {m : Nat} (B : Bnd n s) (h : n ≤ m) : Bnd m s := ⟨B.len, ⟨Nat.le_trans B.few.1 h, Nat.le_trans B.few.2.1 h, Nat.le_trans B.few.2.2.1 h, fun g hg => Nat.le_trans (B.few.2.2.2 g hg) h⟩, B.free, B.top, B.links, B.hands⟩
theorem linkAt_le {ls : List Nat} {c m : Nat} (h : ∀ x ∈ ls, x ≤ m) : linkAt ls c ≤ m := by
  unfold linkAt
  by_cases z : c - 1 < ls.length
  · simp only [List.getD, List.getElem?_eq_getElem z, Option.getD_some]
    exact h _ (List.getElem_mem z)
  · simp [List.getD, List.getElem?_eq_none_iff.mpr (Nat.le_of_not_lt z)]
theorem Bnd.go {st : Stp} {s' : Mach} (B : Bnd n s) (hi : s.hands[i]? = some h) (G : Go r s i h st s') : Bnd (n + 1) s' := by
  have hm := List.mem_of_getElem? hi
  obtain ⟨b1, b2, b3⟩ := B.hands h hm
  have sd := B.few.2.2.2 h hm
  have B1 : Bnd (n + 1) s := B.up (Nat.le_succ n)
  have didOk : ∀ a : V, (h.did a).said.length ≤ n + 1 := fun a => by
    show (h.said ++ [a]).length ≤ n + 1
    rw [List.length_append]
    exact Nat.succ_le_succ sd
  have didB : ∀ (a : V) (m : Nat), (h.did a).cell ≤ m ∧ (∀ t k, (h.did a).seen = some (t, k) → t ≤ m) ∧ ∀ f, (h.did a).follow = some f → f ≤ m := fun a m => ⟨Nat.zero_le _, fun t k q => (by cases q), fun f q => (by cases q)⟩
  have agB : h.again.cell ≤ s.vals.length ∧ (∀ t k, h.again.seen = some (t, k) → t ≤ s.vals.length) ∧ ∀ f, h.again.follow = some f → f ≤ s.vals.length := ⟨b1, fun t k q => (by cases q), fun f q => (by cases q)⟩
  cases G with
  | rests e => exact B1
  | takesNew v e hc hp =>
    have up : ∀ x, x ≤ s.vals.length → x ≤ (s.vals ++ [v]).length := fun x hx => by rw [List.length_append]; omega
    refine ⟨by show (s.vals ++ [v]).length = (s.links ++ [0]).length; rw [List.length_append, List.length_append, B.len]; rfl, ⟨?_, Nat.le_succ_of_le B.few.2.1, Nat.le_succ_of_le B.few.2.2.1, fun g hg => ?_⟩, fun c hc2 => ⟨(B.free c hc2).1, up _ (B.free c hc2).2⟩, up _ B.top, fun c hc2 => ?_, fun g hg => ?_⟩
    · show (s.vals ++ [v]).length ≤ n + 1
      rw [List.length_append]
      exact Nat.succ_le_succ B.few.1
    · rcases mem_set hg with z | z
      · exact Nat.le_succ_of_le (B.few.2.2.2 g z)
      · rw [z]; exact Nat.le_succ_of_le sd
    · rcases List.mem_append.mp hc2 with z | z
      · exact up _ (B.links c z)
      · rw [List.mem_singleton.mp z]; exact Nat.zero_le _
    · rcases mem_set hg with z | z
      · obtain ⟨c1, c2, c3⟩ := B.hands g z
        exact ⟨up _ c1, fun t k q => up _ (c2 t k q), fun f q => up _ (c3 f q)⟩
      · rw [z]
        refine ⟨?_, fun t k q => up _ (b2 t k q), fun f q => up _ (b3 f q)⟩
        show s.vals.length + 1 ≤ (s.vals ++ [v]).length
        rw [List.length_append]
        exact Nat.le_refl _
  | takesFree v c e hc hp =>
    have hf := pick_mem hp
    have el : (s.vals.set (c - 1) v).length = s.vals.length := List.length_set
    refine ⟨by show (s.vals.set (c - 1) v).length = _; rw [el]; exact B.len, ⟨by show (s.vals.set (c - 1) v).length ≤ _; rw [el]; exact B1.few.1, ?_, B1.few.2.2.1, fun g hg => ?_⟩, fun d hd => ?_, by show _ ≤ (s.vals.set (c - 1) v).length; rw [el]; exact B.top, fun d hd => by show _ ≤ (s.vals.set (c - 1) v).length; rw [el]; exact B.links d hd, fun g hg => ?_⟩
    · exact Nat.le_trans List.length_erase_le B1.few.2.1
    · rcases mem_set hg with z | z
      · exact Nat.le_succ_of_le (B.few.2.2.2 g z)
      · rw [z]; exact Nat.le_succ_of_le sd
    · show 1 ≤ d ∧ d ≤ (s.vals.set (c - 1) v).length
      rw [el]
      exact B.free d (List.mem_of_mem_erase hd)
    · show _ ≤ (s.vals.set (c - 1) v).length ∧ (∀ t k, _ → _ ≤ (s.vals.set (c - 1) v).length) ∧ ∀ f, _ → _ ≤ (s.vals.set (c - 1) v).length
      rw [el]
      rcases mem_set hg with z | z
      · exact B.hands g z
      · rw [z]
        exact ⟨(B.free c hf).2, b2, b3⟩
  | readsPush v e hc hs =>
    refine B1.put (h' := { h with seen := some (s.top, s.count) }) (Nat.le_succ_of_le sd) ⟨b1, fun t k q => ?_, b3⟩
    have z : (s.top, s.count) = (t, k) := Option.some.inj q
    injection z with z1 _
    rw [← z1]
    exact B.top
  | links v t k e hc hs hf =>
    refine ⟨by show s.vals.length = (s.links.set (h.cell - 1) t).length; rw [List.length_set]; exact B.len, ⟨B1.few.1, B1.few.2.1, B1.few.2.2.1, fun g hg => ?_⟩, B.free, B.top, fun c hc2 => ?_, fun g hg => ?_⟩
    · rcases mem_set hg with z | z
      · exact Nat.le_succ_of_le (B.few.2.2.2 g z)
      · rw [z]; exact Nat.le_succ_of_le sd
    · obtain ⟨j, hj, ej⟩ := List.mem_iff_getElem.mp hc2
      rw [List.getElem_set] at ej
      split at ej
      · rw [← ej]; exact b2 t k hs
      · rw [← ej]; exact B.links _ (List.getElem_mem _)
    · rcases mem_set hg with z | z
      · exact B.hands g z
      · rw [z]
        refine ⟨b1, b2, fun f q => ?_⟩
        have : t = f := Option.some.inj q
        rw [← this]
        exact b2 t k hs
  | pushes v f e hc hs hf =>
    refine ⟨B.len, ⟨B1.few.1, B1.few.2.1, ?_, fun g hg => ?_⟩, B.free, b1, B.links, fun g hg => ?_⟩
    · show (s.ends ++ [(i, h.at_)]).length ≤ n + 1
      rw [List.length_append]
      exact Nat.succ_le_succ B.few.2.2.1
    · rcases mem_set hg with z | z
      · exact Nat.le_succ_of_le (B.few.2.2.2 g z)
      · rw [z]; exact didOk _
    · rcases mem_set hg with z | z
      · exact B.hands g z
      · rw [z]; exact didB _ _
  | missPush v t k f e hc hs hf nn => exact B1.put (h' := h.again) (Nat.le_succ_of_le sd) agB
  | meets e hs ht =>
    refine ⟨B.len, ⟨B1.few.1, B1.few.2.1, ?_, fun g hg => ?_⟩, B.free, B.top, B.links, fun g hg => ?_⟩
    · show (s.ends ++ [(i, h.at_)]).length ≤ n + 1
      rw [List.length_append]
      exact Nat.succ_le_succ B.few.2.2.1
    · rcases mem_set hg with z | z
      · exact Nat.le_succ_of_le (B.few.2.2.2 g z)
      · rw [z]; exact didOk _
    · rcases mem_set hg with z | z
      · exact B.hands g z
      · rw [z]; exact didB _ _
  | readsPop e hs ht =>
    refine B1.put (h' := { h with seen := some (s.top, s.count) }) (Nat.le_succ_of_le sd) ⟨b1, fun t k q => ?_, b3⟩
    have z : (s.top, s.count) = (t, k) := Option.some.inj q
    injection z with z1 _
    rw [← z1]
    exact B.top
  | lets t k e hs hc =>
    refine ⟨B.len, ⟨B1.few.1, ?_, B1.few.2.2.1, fun g hg => ?_⟩, fun c hc2 => ?_, B.top, B.links, fun g hg => ?_⟩
    · show (s.free ++ [h.cell]).length ≤ n + 1
      rw [List.length_append]
      exact Nat.succ_le_succ B.few.2.1
    · rcases mem_set hg with z | z
      · exact Nat.le_succ_of_le (B.few.2.2.2 g z)
      · rw [z]; exact didOk _
    · rcases List.mem_append.mp hc2 with z | z
      · exact B.free c z
      · rw [List.mem_singleton.mp z]
        exact ⟨by omega, b1⟩
    · rcases mem_set hg with z | z
      · exact B.hands g z
      · rw [z]; exact didB _ _
  | marks t k e hs hc hmm hl hk => exact B1.put (h' := { h with mark := t }) (Nat.le_succ_of_le sd) ⟨b1, b2, b3⟩
  | looks t k e hs hc hmm hl hk ht => exact B1.put (h' := { h with looked := true }) (Nat.le_succ_of_le sd) ⟨b1, b2, b3⟩
  | looksNot t k e hs hc hmm hl hk ht => exact B1.put (h' := h.again) (Nat.le_succ_of_le sd) agB
  | follows t k e hs hc hmm hf =>
    refine B1.put (h' := { h with follow := some (linkAt s.links t) }) (Nat.le_succ_of_le sd) ⟨b1, b2, fun f q => ?_⟩
    have : linkAt s.links t = f := Option.some.inj q
    rw [← this]
    exact linkAt_le B.links
  | pops f e hs hc hmm hf =>
    refine ⟨B.len, ⟨B1.few.1, B1.few.2.1, ?_, fun g hg => ?_⟩, B.free, b3 f hf, B.links, fun g hg => ?_⟩
    · show (s.ends ++ [(i, h.at_)]).length ≤ n + 1
      rw [List.length_append]
      exact Nat.succ_le_succ B.few.2.2.1
    · rcases mem_set hg with z | z
      · exact Nat.le_succ_of_le (B.few.2.2.2 g z)
      · rw [z]; exact Nat.le_succ_of_le sd
    · rcases mem_set hg with z | z
      · exact B.hands g z
      · rw [z]
        exact ⟨B.top, b2, b3⟩
  | missPop t k f e hs hc hmm hf nn => exact B1.put (h' := h.again) (Nat.le_succ_of_le sd) agB
theorem Bnd.turn (B : Bnd n s) : Bnd (n + 1) (turn r s i).2 := by
  cases hi : s.hands[i]? with
  | none =>
    rw [turn_none hi]
    exact B.up (Nat.le_succ n)
  | some h =>
    rw [turn_some hi]
    exact B.go hi (go_kind r s i h)
theorem Bnd.play : ∀ {w : List Nat} {s : Mach} {n : Nat}, Bnd n s → Bnd (n + w.length) (play r s w).2
  | [], _, _, B => B
  | i :: w, s, n, B => by
    have := Bnd.play (w := w) (s := (Sk.turn r s i).2) (n := n + 1) B.turn
    rw [show n + (i :: w).length = n + 1 + w.length by simp; omega]
    exact this
theorem Bnd.begun (xs : List Int) (ps : List (List Deed)) : Bnd xs.length (Mach.begun xs ps) := by
  have key : ∀ g ∈ ps.map Hand.new, g.said = [] ∧ g.cell = 0 ∧ g.seen = none ∧ g.follow = none := fun g hg => by
    obtain ⟨ds, _, rfl⟩ := List.mem_map.mp hg
    exact ⟨rfl, rfl, rfl, rfl⟩
  refine ⟨List.length_range.symm, ⟨Nat.le_refl _, Nat.zero_le _, Nat.zero_le _, fun g hg => ?_⟩, fun c hc => (by cases hc), Nat.le_refl _, fun c hc => ?_, fun g hg => ?_⟩
  · rw [(key g hg).1]
    exact Nat.zero_le _
  · have := List.mem_range.mp hc
    show c ≤ xs.length
    omega
  · obtain ⟨_, k2, k3, k4⟩ := key g hg
    rw [k2, k3, k4]
    exact ⟨Nat.zero_le _, fun t k q => (by cases q), fun f q => (by cases q)⟩
/-- no hand has done more deeds than it has -/
def AllLe (s : Mach) : Prop := ∀ h ∈ s.hands, h.at_ ≤ h.deeds.length
theorem AllLe.go {st : Stp} {s' : Mach} (B : AllLe s) (hi : s.hands[i]? = some h) (G : Go r s i h st s') : AllLe s' := by
  have hm := List.mem_of_getElem? hi
  have b := B h hm
  have put : ∀ h' : Hand, s'.hands = s.hands.set i h' → h'.at_ ≤ h'.deeds.length → AllLe s' := fun h' e l g hg => by
    rw [e] at hg
    rcases mem_set hg with z | z
    · exact B g z
    · rw [z]; exact l
  have lt : ∀ {d : Deed}, h.deeds[h.at_]? = some d → h.at_ + 1 ≤ h.deeds.length := fun e => (List.getElem?_eq_some_iff.mp e).1
  cases G with
  | rests e => exact B
  | pushes v f e hc hs hf => exact put _ rfl (lt e)
  | meets e hs ht => exact put _ rfl (lt e)
  | lets t k e hs hc => exact put _ rfl (lt e)
  | _ => exact put _ rfl b
theorem AllLe.turn (B : AllLe s) : AllLe (turn r s i).2 := by
  cases hi : s.hands[i]? with
  | none =>
    rw [turn_none hi]
    exact B
  | some h =>
    rw [turn_some hi]
    exact B.go hi (go_kind r s i h)
theorem AllLe.begun (xs : List Int) (ps : List (List Deed)) : AllLe (Mach.begun xs ps) := fun g hg => by
  obtain ⟨ds, _, rfl⟩ := List.mem_map.mp hg
  exact Nat.zero_le _
theorem go_many {st : Stp} {s' : Mach} (G : Go r s i h st s') : s'.hands.length = s.hands.length := by
  cases G <;> first | rfl | exact List.length_set
theorem turn_many : (turn r s i).2.hands.length = s.hands.length := by
  cases hi : s.hands[i]? with
  | none => rw [turn_none hi]
  | some h =>
    rw [turn_some hi]
    exact go_many (go_kind r s i h)
end
end Sk


/-! A hand that does a whole deed on end. -/
namespace Sk
open PySem PySem.Spec PyProof.Rows L2
structure Calm (h : Hand) : Prop where
  cell : h.cell = 0
  seen : h.seen = none
  follow : h.follow = none
  looked : h.looked = false
  mark : h.mark = 0
theorem Calm.did (h : Hand) (a : V) : Calm (h.did a) := ⟨rfl, rfl, rfl, rfl, rfl⟩
theorem Calm.new (ds : List Deed) : Calm (Hand.new ds) := ⟨rfl, rfl, rfl, rfl, rfl⟩
section
variable {r : Rule} {s : Mach} {i : Nat} {h : Hand}
theorem hand_set {h' : Hand} (hi : s.hands[i]? = some h) : (s.hands.set i h')[i]? = some h' := List.getElem?_set_self (lt_of_get hi)
/-- the machine behind a whole push -/
def pushed (r : Rule) (s : Mach) (i : Nat) (h : Hand) (v : Int) : Mach := match pick r s with
  | none => { s with vals := s.vals ++ [v], links := (s.links ++ [0]).set s.vals.length s.top, top := s.vals.length + 1, count := bump r s.count, ends := s.ends ++ [(i, h.at_)], hands := s.hands.set i (h.did (.str "done")) }
  | some c => { s with vals := s.vals.set (c - 1) v, links := s.links.set (c - 1) s.top, free := s.free.erase c, top := c, count := bump r s.count, ends := s.ends ++ [(i, h.at_)], hands := s.hands.set i (h.did (.str "done")) }
def pushCell (r : Rule) (s : Mach) : Nat := match pick r s with
  | none => s.vals.length + 1
  | some c => c
/-- the four steps of a push: each step's machine holds the hand's answers as before, the last one more -/
theorem run_push {v : Int} (hi : s.hands[i]? = some h) (e : h.deeds[h.at_]? = some (.push v)) (C : Calm h) (B : ∀ c ∈ s.free, c ≠ 0) :
    ∃ s1 s2 s3 : Mach, turn r s i = (.takes (pushCell r s), s1) ∧ turn r s1 i = (.reads s.top, s2) ∧ turn r s2 i = (.links s.top, s3) ∧ turn r s3 i = (.ends (.str "done"), pushed r s i h v) ∧
      (∃ h1, s1.hands = s.hands.set i h1 ∧ h1.said = h.said) ∧ (∃ h2, s2.hands = s.hands.set i h2 ∧ h2.said = h.said) ∧ ∃ h3, s3.hands = s.hands.set i h3 ∧ h3.said = h.said := by
  cases hp : pick r s with
  | none =>
    refine ⟨{ s with vals := s.vals ++ [v], links := s.links ++ [0], hands := s.hands.set i { h with cell := s.vals.length + 1 } }, { s with vals := s.vals ++ [v], links := s.links ++ [0], hands := s.hands.set i { h with cell := s.vals.length + 1, seen := some (s.top, s.count) } },
      { s with vals := s.vals ++ [v], links := (s.links ++ [0]).set s.vals.length s.top, hands := s.hands.set i { h with cell := s.vals.length + 1, seen := some (s.top, s.count), follow := some s.top } }, ?_, ?_, ?_, ?_, ⟨_, rfl, rfl⟩, ⟨_, rfl, rfl⟩, ⟨_, rfl, rfl⟩⟩
    · rw [turn_some hi]
      unfold go pushCell
      rw [e, hp]
      dsimp only
      rw [if_pos C.cell]
    · rw [turn_some (h := { h with cell := s.vals.length + 1 }) (hand_set hi)]
      unfold go
      dsimp only
      rw [e]
      dsimp only
      rw [if_neg (by omega), C.seen]
      simp [Mach.put]
    · rw [turn_some (h := { h with cell := s.vals.length + 1, seen := some (s.top, s.count) }) (hand_set hi)]
      unfold go
      dsimp only
      rw [e]
      dsimp only
      rw [if_neg (by omega), C.follow]
      simp
    · rw [turn_some (h := { h with cell := s.vals.length + 1, seen := some (s.top, s.count), follow := some s.top }) (hand_set hi)]
      unfold go pushed
      dsimp only
      rw [e, hp]
      dsimp only
      rw [if_neg (by omega)]
      simp [Hand.did]
  | some c =>
    have c0 := B c (pick_mem hp)
    refine ⟨{ s with vals := s.vals.set (c - 1) v, free := s.free.erase c, hands := s.hands.set i { h with cell := c } }, { s with vals := s.vals.set (c - 1) v, free := s.free.erase c, hands := s.hands.set i { h with cell := c, seen := some (s.top, s.count) } },
      { s with vals := s.vals.set (c - 1) v, links := s.links.set (c - 1) s.top, free := s.free.erase c, hands := s.hands.set i { h with cell := c, seen := some (s.top, s.count), follow := some s.top } }, ?_, ?_, ?_, ?_, ⟨_, rfl, rfl⟩, ⟨_, rfl, rfl⟩, ⟨_, rfl, rfl⟩⟩
    · rw [turn_some hi]
      unfold go pushCell
      rw [e, hp]
      dsimp only
      rw [if_pos C.cell]
    · rw [turn_some (h := { h with cell := c }) (hand_set hi)]
      unfold go
      dsimp only
      rw [e]
      dsimp only
      rw [if_neg c0, C.seen]
      simp [Mach.put]
    · rw [turn_some (h := { h with cell := c, seen := some (s.top, s.count) }) (hand_set hi)]
      unfold go
      dsimp only
      rw [e]
      dsimp only
      rw [if_neg c0, C.follow]
      simp
    · rw [turn_some (h := { h with cell := c, seen := some (s.top, s.count), follow := some s.top }) (hand_set hi)]
      unfold go pushed
      dsimp only
      rw [e, hp]
      dsimp only
      rw [if_neg c0]
      simp [Hand.did]
/-- a pop that meets none -/
theorem run_meets (hi : s.hands[i]? = some h) (e : h.deeds[h.at_]? = some .pop) (C : Calm h) (ht : s.top = 0) : turn r s i = (.ends .non, { s with ends := s.ends ++ [(i, h.at_)], hands := s.hands.set i (h.did .non) }) := by
  rw [turn_some hi]
  unfold go
  rw [e]
  dsimp only
  rw [C.seen]
  dsimp only
  rw [if_pos ht]
/-- the machine behind a whole pop -/
def popped (r : Rule) (s : Mach) (i : Nat) (h : Hand) : Mach :=
  { s with top := linkAt s.links s.top, count := bump r s.count, free := s.free ++ [s.top], ends := s.ends ++ [(i, h.at_)], hands := s.hands.set i (h.did (.int (valAt s.vals s.top))) }
/-- the steps behind the reading: marks and looks first, if the rule names the hand -/
theorem run_pop (hi : s.hands[i]? = some h) (e : h.deeds[h.at_]? = some .pop) (C : Calm h) (ht : s.top ≠ 0) :
    ∃ s1 sm s3 s4 : Mach, turn r s i = (.reads s.top, s1) ∧ (if mustMark r i = true then ∃ s2, turn r s1 i = (.marks s.top, s2) ∧ turn r s2 i = (.looks true, sm) ∧ ∃ h2, s2.hands = s.hands.set i h2 ∧ h2.said = h.said else sm = s1) ∧
      turn r sm i = (.follows (linkAt s.links s.top), s3) ∧ turn r s3 i = (.exchanges (linkAt s.links s.top), s4) ∧ turn r s4 i = (.ends (.int (valAt s.vals s.top)), popped r s i h) ∧
      (∃ h1, s1.hands = s.hands.set i h1 ∧ h1.said = h.said) ∧ (∃ h1, sm.hands = s.hands.set i h1 ∧ h1.said = h.said) ∧ (∃ h1, s3.hands = s.hands.set i h1 ∧ h1.said = h.said) ∧ (∃ h1, s4.hands = s.hands.set i h1 ∧ h1.said = h.said) := by
  cases hm : mustMark r i with
  | false =>
    refine ⟨s.put i { h with seen := some (s.top, s.count) }, s.put i { h with seen := some (s.top, s.count) }, s.put i { h with seen := some (s.top, s.count), follow := some (linkAt s.links s.top) },
      { s with top := linkAt s.links s.top, count := bump r s.count, ends := s.ends ++ [(i, h.at_)], hands := s.hands.set i { h with seen := some (s.top, s.count), follow := some (linkAt s.links s.top), cell := s.top } }, ?_, ?_, ?_, ?_, ?_, ⟨_, rfl, rfl⟩, ⟨_, rfl, rfl⟩, ⟨_, rfl, rfl⟩, ⟨_, rfl, rfl⟩⟩
    · rw [turn_some hi]
      unfold go
      rw [e]
      dsimp only
      rw [C.seen]
      dsimp only
      rw [if_neg ht]
    · rw [if_neg (by simp)]
    · rw [turn_some (h := { h with seen := some (s.top, s.count) }) (hand_set hi)]
      unfold go
      dsimp only [Mach.put]
      rw [e]
      dsimp only
      rw [if_neg (by rw [C.cell]; omega), if_neg (by rw [hm]; simp), C.follow]
      simp
    · rw [turn_some (h := { h with seen := some (s.top, s.count), follow := some (linkAt s.links s.top) }) (hand_set hi)]
      unfold go
      dsimp only [Mach.put]
      rw [e]
      dsimp only
      rw [if_neg (by rw [C.cell]; omega), if_neg (by rw [hm]; simp)]
      simp
    · rw [turn_some (h := { h with seen := some (s.top, s.count), follow := some (linkAt s.links s.top), cell := s.top }) (hand_set hi)]
      unfold go popped
      dsimp only
      rw [e]
      dsimp only
      rw [if_pos (by omega)]
      simp [Hand.did]
  | true =>
    refine ⟨s.put i { h with seen := some (s.top, s.count) }, s.put i { h with seen := some (s.top, s.count), mark := s.top, looked := true }, s.put i { h with seen := some (s.top, s.count), mark := s.top, looked := true, follow := some (linkAt s.links s.top) },
      { s with top := linkAt s.links s.top, count := bump r s.count, ends := s.ends ++ [(i, h.at_)], hands := s.hands.set i { h with seen := some (s.top, s.count), mark := s.top, looked := true, follow := some (linkAt s.links s.top), cell := s.top } }, ?_, ?_, ?_, ?_, ?_, ⟨_, rfl, rfl⟩, ⟨_, rfl, rfl⟩, ⟨_, rfl, rfl⟩, ⟨_, rfl, rfl⟩⟩
    · rw [turn_some hi]
      unfold go
      rw [e]
      dsimp only
      rw [C.seen]
      dsimp only
      rw [if_neg ht]
    · rw [if_pos rfl]
      refine ⟨s.put i { h with seen := some (s.top, s.count), mark := s.top }, ?_, ?_, ⟨_, rfl, rfl⟩⟩
      · rw [turn_some (h := { h with seen := some (s.top, s.count) }) (hand_set hi)]
        unfold go
        dsimp only [Mach.put]
        rw [e]
        dsimp only
        rw [if_neg (by rw [C.cell]; omega), if_pos ⟨hm, C.looked⟩, if_pos (by rw [C.mark]; exact Ne.symm ht)]
        simp
      · rw [turn_some (h := { h with seen := some (s.top, s.count), mark := s.top }) (hand_set hi)]
        unfold go
        dsimp only [Mach.put]
        rw [e]
        dsimp only
        rw [if_neg (by rw [C.cell]; omega), if_pos ⟨hm, C.looked⟩, if_neg (by simp)]
        simp
    · rw [turn_some (h := { h with seen := some (s.top, s.count), mark := s.top, looked := true }) (hand_set hi)]
      unfold go
      dsimp only [Mach.put]
      rw [e]
      dsimp only
      rw [if_neg (by rw [C.cell]; omega), if_neg (by simp), C.follow]
      simp
    · rw [turn_some (h := { h with seen := some (s.top, s.count), mark := s.top, looked := true, follow := some (linkAt s.links s.top) }) (hand_set hi)]
      unfold go
      dsimp only [Mach.put]
      rw [e]
      dsimp only
      rw [if_neg (by rw [C.cell]; omega), if_neg (by simp)]
      simp
    · rw [turn_some (h := { h with seen := some (s.top, s.count), mark := s.top, looked := true, follow := some (linkAt s.links s.top), cell := s.top }) (hand_set hi)]
      unfold go popped
      dsimp only
      rw [e]
      dsimp only
      rw [if_pos (by omega)]
      simp [Hand.did]
end
end Sk


/-! Weavings played, rounds to the end, what stands then. -/
namespace Sk
open PySem PySem.Spec PyProof.Rows L2
section
variable {r : Rule} {s : Mach} {i j : Nat} {h : Hand} {xs : List Int} {ps : List (List Deed)} {P : List Nat}
theorem Go.hands {st : Stp} {s' : Mach} (G : Go r s i h st s') : s' = s ∨ ∃ h', s'.hands = s.hands.set i h' ∧ h'.deeds = h.deeds := by
  cases G <;> first | exact .inl rfl | exact .inr ⟨_, rfl, rfl⟩
theorem turn_other (n : i ≠ j) : (turn r s i).2.hands[j]? = s.hands[j]? := by
  cases hi : s.hands[i]? with
  | none => rw [turn_none hi]
  | some h =>
    rw [turn_some hi]
    rcases (go_kind r s i h).hands with e | ⟨h', e, _⟩
    · rw [e]
    · rw [e, List.getElem?_set_ne n]
/-- the programs stay -/
theorem turn_progs : (turn r s i).2.hands.map Hand.deeds = s.hands.map Hand.deeds := by
  cases hi : s.hands[i]? with
  | none => rw [turn_none hi]
  | some h =>
    rw [turn_some hi]
    rcases (go_kind r s i h).hands with e | ⟨h', e, e2⟩
    · rw [e]
    · rw [e]
      apply List.ext_getElem?
      intro k
      rw [List.getElem?_map, List.getElem?_map, List.getElem?_set]
      split
      · rename_i q
        subst q
        split
        · rw [hi]
          simp [e2]
        · rename_i q
          exact absurd (lt_of_get hi) q
      · rfl
theorem play_many : ∀ {w : List Nat} {s : Mach}, (play r s w).2.hands.length = s.hands.length
  | [], _ => rfl
  | i :: w, s => by
    show (play r (turn r s i).2 w).2.hands.length = _
    rw [play_many, turn_many]
theorem play_append : ∀ {w v : List Nat} {s : Mach}, play r s (w ++ v) = ((play r s w).1 ++ (play r (play r s w).2 v).1, (play r (play r s w).2 v).2)
  | [], _, _ => rfl
  | i :: w, v, s => by
    show ((turn r s i).1 :: (play r (turn r s i).2 (w ++ v)).1, (play r (turn r s i).2 (w ++ v)).2) = _
    rw [play_append]
    rfl
theorem play_len : ∀ {w : List Nat} {s : Mach}, (play r s w).1.length = w.length
  | [], _ => rfl
  | i :: w, s => by
    show (play r (turn r s i).2 w).1.length + 1 = w.length + 1
    rw [play_len]
theorem play_le : ∀ {w : List Nat} {s : Mach}, Base s → (play r s w).2.toDo r ≤ s.toDo r
  | [], _, _ => Nat.le_refl _
  | i :: w, s, B => Nat.le_trans (play_le (w := w) B.turn) (turn_le B)
/-- a weaving that names a hand which has not done all brings the end nearer -/
theorem play_lt : ∀ {w : List Nat} {s : Mach}, Base s → s.hands[i]? = some h → h.at_ < h.deeds.length → i ∈ w → (play r s w).2.toDo r < s.toDo r
  | [], _, _, _, _, m => by cases m
  | j :: w, s, B, hi, op, m => by
    by_cases q : j = i
    · subst q
      exact Nat.lt_of_le_of_lt (play_le (w := w) B.turn) (turn_lt B hi op)
    · have m2 : i ∈ w := by
        rcases List.mem_cons.mp m with z | z
        · exact absurd z.symm q
        · exact z
      exact Nat.lt_of_lt_of_le (play_lt (w := w) (s := (turn r s j).2) B.turn (by rw [turn_other q]; exact hi) op m2) (turn_le B)
/-- all hands do a step -/
def Mach.round (r : Rule) (s : Mach) : Mach := (play r s (List.range s.hands.length)).2
theorem round_lt (B : Base s) (nd : s.done = false) : (s.round r).toDo r < s.toDo r := by
  unfold Mach.done at nd
  obtain ⟨g, hg, e⟩ : ∃ g ∈ s.hands, g.at_ < g.deeds.length := by
    refine Classical.byContradiction fun no => ?_
    have : (s.hands.all fun h => decide (h.deeds.length ≤ h.at_)) = true := List.all_eq_true.mpr fun g hg => decide_eq_true (Nat.le_of_not_lt fun q => no ⟨g, hg, q⟩)
    rw [this] at nd
    cases nd
  obtain ⟨k, hk, ek⟩ := List.mem_iff_getElem.mp hg
  exact play_lt B (by rw [List.getElem?_eq_getElem hk, ek]) e (List.mem_range.mpr hk)
/-- rounds till all is done -/
def rounds (r : Rule) : Nat → Mach → Mach
  | 0, s => s
  | n + 1, s => if s.done = true then s else rounds r n (s.round r)
theorem rounds_done : ∀ {n : Nat} {s : Mach}, Base s → s.toDo r ≤ n → (rounds r n s).done = true
  | 0, s, B, h => by
    show s.done = true
    cases q : s.done with
    | true => rfl
    | false =>
      have := round_lt (r := r) B q
      omega
  | n + 1, s, B, h => by
    unfold rounds
    by_cases q : s.done = true
    · rw [if_pos q]; exact q
    · rw [if_neg q]
      have q2 : s.done = false := by simpa using q
      have := round_lt (r := r) B q2
      exact rounds_done (s := s.round r) B.play (by omega)
/-- the weaving, then all hands by turns to the end -/
def wholeM (r : Rule) (s : Mach) (w : List Nat) : Mach := rounds r ((play r s w).2.toDo r) (play r s w).2
/-! ### no stale exchange -/
theorem Safe.begun (xs : List Int) (ps : List (List Deed)) : Safe r (Mach.begun xs ps) := by
  refine ⟨fun i h hi _ _ t k q => ?_, fun m _ => Nat.zero_le _⟩
  obtain ⟨ds, _, rfl⟩ := List.mem_map.mp (List.mem_of_getElem? (show (ps.map Hand.new)[i]? = some h from hi))
  cases q
structure Fine (r : Rule) (xs : List Int) (ps : List (List Deed)) (s : Mach) : Prop where
  inv : ∃ P, Inv xs ps s P
  safe : Safe r s
  fresh : s.stale = false
theorem Fine.begun (xs : List Int) (ps : List (List Deed)) : Fine r xs ps (Mach.begun xs ps) := ⟨⟨_, Inv.begun xs ps⟩, Safe.begun xs ps, rfl⟩
theorem Fine.turn (gd : Good r ps) (F : Fine r xs ps s) : Fine r xs ps (turn r s i).2 := by
  obtain ⟨⟨P, I⟩, S, n0⟩ := F
  cases hi : s.hands[i]? with
  | none =>
    rw [turn_none hi]
    exact ⟨⟨P, I⟩, S, n0⟩
  | some h =>
    rw [turn_some hi]
    obtain ⟨n1, S1⟩ := S.go gd I n0 hi (go_kind r s i h)
    exact ⟨⟨_, I.go hi (go_kind r s i h) n1⟩, S1, n1⟩
theorem Fine.play (gd : Good r ps) : ∀ {w : List Nat} {s : Mach}, Fine r xs ps s → Fine r xs ps (play r s w).2
  | [], _, F => F
  | _ :: w, _, F => Fine.play gd (w := w) (F.turn gd)
theorem Fine.rounds (gd : Good r ps) : ∀ {n : Nat} {s : Mach}, Fine r xs ps s → Fine r xs ps (rounds r n s)
  | 0, _, F => F
  | n + 1, s, F => by
    unfold Sk.rounds
    by_cases q : s.done = true
    · rw [if_pos q]; exact F
    · rw [if_neg q]; exact Fine.rounds gd (F.play gd)
/-- by keeps, by marks of all hands, by a count more than there are deeds: none is stale -/
theorem never_stale (gd : Good r ps) (xs : List Int) (w : List Nat) : (play r (Mach.begun xs ps) w).2.stale = false := (Fine.play gd (Fine.begun xs ps)).fresh
/-! ### all done -/
theorem done_pend (I : Inv xs ps s P) (d : s.done = true) (hi : s.hands[i]? = some h) : h.at_ = h.deeds.length ∧ pend h = false := by
  have q := List.all_eq_true.mp d h (List.mem_of_getElem? hi)
  have q2 : h.deeds.length ≤ h.at_ := of_decide_eq_true q
  have e := Nat.le_antisymm (I.hand i h hi).le q2
  refine ⟨e, ?_⟩
  unfold pend
  rw [List.getElem?_eq_none_iff.mpr (by omega)]
/-- at the end each hand's answers are those of its deeds in the order, its deeds stand in the order one behind another -/
theorem done_said (I : Inv xs ps s P) (d : s.done = true) (hi : s.hands[i]? = some h) : h.said = ownAns i s.ends (acts xs (decided ps s.ends)).1 ∧ ownEnds i s.ends = List.range h.deeds.length := by
  obtain ⟨e, p⟩ := done_pend I d hi
  have k := I.hand i h hi
  have a := k.said
  have b := k.own
  rw [p] at a b
  rw [e] at b
  refine ⟨?_, ?_⟩
  · rw [a]
    show h.said = h.said ++ []
    rw [List.append_nil]
  · rw [b]
    rfl
end
end Sk


/-! Two counts that never come round; values called otherwise. -/
namespace Sk
open PySem PySem.Spec PyProof.Rows L2
section
variable {r : Rule} {s : Mach} {i j : Nat} {h : Hand} {xs : List Int} {ps : List (List Deed)} {P : List Nat}
theorem go_counts {m m2 : Nat} (e : bump (.counts m) s.count = bump (.counts m2) s.count) : go (.counts m) s i h = go (.counts m2) s i h := by
  have hp : pick (.counts m) s = pick (.counts m2) s := rfl
  have hm : mustMark (.counts m) i = mustMark (.counts m2) i := rfl
  unfold go
  rw [hp, hm, e]
/-- a turn is the same by two counts that are more than all deeds -/
theorem turn_counts {m m2 : Nat} (g1 : total ps < m) (g2 : total ps < m2) (F : Fine (.counts m) xs ps s) : turn (.counts m) s i = turn (.counts m2) s i := by
  obtain ⟨⟨P, I⟩, S, n0⟩ := F
  cases hi : s.hands[i]? with
  | none => rw [turn_none hi, turn_none hi]
  | some h =>
    rw [turn_some hi, turn_some hi]
    by_cases e : bump (.counts m) s.count = bump (.counts m2) s.count
    · exact go_counts e
    · -- the count is all deeds: none is open, so nothing is exchanged
      have lo := S.low m rfl
      have le := I.ends_le
      have hc : ¬ s.count + 1 < m ∨ ¬ s.count + 1 < m2 := by
        refine Classical.byContradiction fun no => e ?_
        rw [not_or, Classical.not_not, Classical.not_not] at no
        show (s.count + 1) % m = (s.count + 1) % m2
        rw [Nat.mod_eq_of_lt no.1, Nat.mod_eq_of_lt no.2]
      have all : s.ends.length = total ps := by omega
      have closed : ∀ d, h.deeds[h.at_]? = some d → pend h = true := fun d hd => by
        cases q : pend h with
        | true => rfl
        | false =>
          have := I.ends_lt hi hd q
          omega
      unfold go
      cases hd : h.deeds[h.at_]? with
      | none => rfl
      | some d =>
        have p := closed d hd
        cases d with
        | push v =>
          rw [pend_push hd] at p
          cases p
        | pop =>
          rw [pend_pop hd] at p
          have c0 : h.cell ≠ 0 := of_decide_eq_true p
          dsimp only
          cases hs : h.seen with
          | none => exact absurd hs ((I.hand i h hi).kept hd c0)
          | some tk =>
            dsimp only
            rw [if_pos (by omega), if_pos (by omega)]
theorem play_counts {m m2 : Nat} (g1 : total ps < m) (g2 : total ps < m2) : ∀ {w : List Nat} {s : Mach}, Fine (.counts m) xs ps s → play (.counts m) s w = play (.counts m2) s w
  | [], _, _ => rfl
  | i :: w, s, F => by
    have e := turn_counts (i := i) g1 g2 F
    show ((turn (.counts m) s i).1 :: (play (.counts m) (turn (.counts m) s i).2 w).1, (play (.counts m) (turn (.counts m) s i).2 w).2) = _
    rw [play_counts g1 g2 (w := w) (F.turn g1), e]
    rfl
/-! ### values called otherwise -/
def mapV (f : Int → Int) : V → V
  | .int v => .int (f v)
  | v => v
def mapD (f : Int → Int) : Deed → Deed
  | .push v => .push (f v)
  | .pop => .pop
def mapStp (f : Int → Int) : Stp → Stp
  | .ends a => .ends (mapV f a)
  | s => s
def Hand.map (f : Int → Int) (h : Hand) : Hand := { h with deeds := h.deeds.map (mapD f), said := h.said.map (mapV f) }
def Mach.map (f : Int → Int) (s : Mach) : Mach := { s with vals := s.vals.map f, hands := s.hands.map (Hand.map f) }
theorem pick_map (f : Int → Int) : pick r (s.map f) = pick r s := by
  unfold pick
  have e : ((s.map f).hands.map Hand.mark) = s.hands.map Hand.mark := by
    show (s.hands.map (Hand.map f)).map Hand.mark = _
    rw [List.map_map]
    rfl
  cases r with
  | keeps => rfl
  | counts m => rw [e]; rfl
  | marks hs => rw [e]; rfl
theorem valAt_map (f : Int → Int) {c : Nat} (h1 : 1 ≤ c) (h2 : c ≤ s.vals.length) : valAt (s.map f).vals c = f (valAt s.vals c) := by
  unfold valAt
  show (s.vals.map f).getD (c - 1) 0 = _
  have lt : c - 1 < s.vals.length := by omega
  simp [List.getD, List.getElem?_eq_getElem lt]
theorem set_map (f : Int → Int) {h' : Hand} : (s.hands.map (Hand.map f)).set i (h'.map f) = (s.hands.set i h').map (Hand.map f) := by
  rw [List.map_set]
theorem go_map (f : Int → Int) {n : Nat} (B : Bnd n s) (hi : s.hands[i]? = some h) : go r (s.map f) i (h.map f) = (mapStp f (go r s i h).1, (go r s i h).2.map f) := by
  have bh := B.hands h (List.mem_of_getElem? hi)
  have ed : (h.map f).deeds[(h.map f).at_]? = (h.deeds[h.at_]?).map (mapD f) := by
    show (h.deeds.map (mapD f))[h.at_]? = _
    rw [List.getElem?_map]
  have did : ∀ a, (h.map f).did (mapV f a) = (h.did a).map f := fun a => by
    unfold Hand.did Hand.map
    simp
  unfold go
  rw [ed, pick_map]
  cases h.deeds[h.at_]? with
  | none => rfl
  | some d =>
    cases d with
    | push v =>
      show (if h.cell = 0 then _ else _) = _
      by_cases hc : h.cell = 0
      · rw [if_pos hc]
        dsimp only
        rw [if_pos hc]
        cases pick r s with
        | none =>
          show (Stp.takes ((s.map f).vals.length + 1), _) = _
          simp [Mach.map, mapStp, Hand.map, List.map_set]
        | some c =>
          simp [Mach.map, mapStp, Hand.map, List.map_set]
      · rw [if_neg hc]
        dsimp only
        rw [if_neg hc]
        show (match h.seen with | none => _ | some (t, k) => _) = _
        cases hs : h.seen with
        | none => simp [Mach.map, Mach.put, mapStp, Hand.map, List.map_set, hs]
        | some tk =>
          obtain ⟨t, k⟩ := tk
          dsimp only
          show (match h.follow with | none => _ | some _ => _) = _
          cases hf : h.follow with
          | none => simp [Mach.map, mapStp, Hand.map, List.map_set, hs, hf]
          | some f2 =>
            dsimp only
            by_cases e : s.top = t ∧ s.count = k
            · rw [if_pos e, if_pos (show (s.map f).top = t ∧ (s.map f).count = k from e)]
              simp [Mach.map, mapStp, Hand.map, Hand.did, mapV, List.map_set, hs, hf]
            · rw [if_neg e, if_neg (show ¬ ((s.map f).top = t ∧ (s.map f).count = k) from e)]
              simp [Mach.map, Mach.put, mapStp, Hand.map, Hand.again, List.map_set, hs, hf]
    | pop =>
      show (match h.seen with | none => _ | some (t, k) => _) = _
      cases hs : h.seen with
      | none =>
        dsimp only
        by_cases e : s.top = 0
        · rw [if_pos e, if_pos (show (s.map f).top = 0 from e)]
          simp [Mach.map, mapStp, Hand.map, Hand.did, mapV, List.map_set, hs]
        · rw [if_neg e, if_neg (show ¬ (s.map f).top = 0 from e)]
          simp [Mach.map, Mach.put, mapStp, Hand.map, List.map_set, hs]
      | some tk =>
        obtain ⟨t, k⟩ := tk
        dsimp only
        by_cases c0 : 0 < h.cell
        · rw [if_pos c0, if_pos (show 0 < (h.map f).cell from c0)]
          have ev := valAt_map (s := s) f c0 bh.1
          show (Stp.ends (.int (valAt (s.map f).vals h.cell)), _) = _
          rw [show (h.map f).cell = h.cell from rfl, ev]
          simp [Mach.map, mapStp, Hand.map, Hand.did, mapV, List.map_set, hs]
        · rw [if_neg c0, if_neg (show ¬ 0 < (h.map f).cell from c0)]
          by_cases em : mustMark r i = true ∧ h.looked = false
          · rw [if_pos em, if_pos (show mustMark r i = true ∧ (h.map f).looked = false from em)]
            by_cases ek : h.mark ≠ t
            · rw [if_pos ek, if_pos (show (h.map f).mark ≠ t from ek)]
              simp [Mach.map, Mach.put, mapStp, Hand.map, List.map_set, hs]
            · rw [if_neg ek, if_neg (show ¬ (h.map f).mark ≠ t from ek)]
              by_cases et : s.top = t
              · rw [if_pos et, if_pos (show (s.map f).top = t from et)]
                simp [Mach.map, Mach.put, mapStp, Hand.map, List.map_set, hs]
              · rw [if_neg et, if_neg (show ¬ (s.map f).top = t from et)]
                simp [Mach.map, Mach.put, mapStp, Hand.map, Hand.again, List.map_set, hs]
          · rw [if_neg em, if_neg (show ¬ (mustMark r i = true ∧ (h.map f).looked = false) from em)]
            show (match h.follow with | none => _ | some _ => _) = _
            cases hf : h.follow with
            | none => simp [Mach.map, Mach.put, mapStp, Hand.map, List.map_set, hs, hf]
            | some f2 =>
              dsimp only
              by_cases e : s.top = t ∧ s.count = k
              · rw [if_pos e, if_pos (show (s.map f).top = t ∧ (s.map f).count = k from e)]
                simp [Mach.map, mapStp, Hand.map, List.map_set, hs, hf]
              · rw [if_neg e, if_neg (show ¬ ((s.map f).top = t ∧ (s.map f).count = k) from e)]
                simp [Mach.map, Mach.put, mapStp, Hand.map, Hand.again, List.map_set, hs, hf]
theorem turn_map (f : Int → Int) {n : Nat} (B : Bnd n s) : turn r (s.map f) i = (mapStp f (turn r s i).1, (turn r s i).2.map f) := by
  cases hi : s.hands[i]? with
  | none =>
    rw [turn_none hi, turn_none (show (s.map f).hands[i]? = none by show (s.hands.map (Hand.map f))[i]? = none; rw [List.getElem?_map, hi]; rfl)]
    rfl
  | some h =>
    rw [turn_some hi, turn_some (h := h.map f) (show (s.map f).hands[i]? = some (h.map f) by show (s.hands.map (Hand.map f))[i]? = _; rw [List.getElem?_map, hi]; rfl)]
    exact go_map f B hi
theorem play_map (f : Int → Int) : ∀ {w : List Nat} {s : Mach} {n : Nat}, Bnd n s → play r (s.map f) w = ((play r s w).1.map (mapStp f), (play r s w).2.map f)
  | [], _, _, _ => rfl
  | i :: w, s, n, B => by
    show ((turn r (s.map f) i).1 :: (play r (turn r (s.map f) i).2 w).1, (play r (turn r (s.map f) i).2 w).2) = _
    rw [turn_map f B, play_map f (w := w) B.turn]
    rfl
end
end Sk


/-! The machine as the package keeps it: one record a hand, and a step of it. -/
namespace Sk
open PySem PySem.Spec PyProof.Rows L2
structure PHand where
  num : Nat
  phase : Nat
  cell : Nat
  top : Nat
  count : Nat
  fol : Nat
  mark : Nat
structure PSt where
  top : Nat
  count : Nat
  nexts : List Nat
  free : List Nat
  vals : List Int
  hands : List PHand
def PHand.ahead (n : Nat) : PHand := ⟨n, 0, 0, 0, 0, 0, 0⟩
def PHand.anew (x : PHand) : PHand := ⟨x.num, 0, x.cell, 0, 0, 0, x.mark⟩
def PSt.put (S : PSt) (i : Nat) (x : PHand) : PSt := { S with hands := S.hands.set i x }
def PSt.done (S : PSt) (i : Nat) (x : PHand) : PSt := S.put i (.ahead (x.num + 1))
def PSt.begun (xs : List Int) (n : Nat) : PSt := ⟨xs.length, 0, List.range xs.length, [], xs, List.replicate n (.ahead 0)⟩
def placeP (r : Rule) (S : PSt) : Option Nat := match r with
  | .keeps => none
  | _ => S.free.findIdx? fun c => !((S.hands.map PHand.mark).contains c)
def takeP (r : Rule) (S : PSt) (i : Nat) (x : PHand) (v : Int) : Stp × PSt := match placeP r S with
  | none => (.takes (S.nexts.length + 1), { S with nexts := S.nexts ++ [0], vals := S.vals ++ [v], hands := S.hands.set i { x with cell := S.nexts.length + 1 } })
  | some j => (.takes (S.free.getD j 0), { S with free := S.free.eraseIdx j, vals := S.vals.set (S.free.getD j 0 - 1) v, hands := S.hands.set i { x with cell := S.free.getD j 0 } })
def readP (S : PSt) (i : Nat) (x : PHand) (pushes : Bool) : Stp × PSt :=
  if S.top = 0 ∧ pushes = false then (.ends .non, S.done i x) else (.reads S.top, S.put i ⟨x.num, 1, x.cell, S.top, S.count, 0, x.mark⟩)
def linkP (S : PSt) (i : Nat) (x : PHand) : Stp × PSt := (.links x.top, { S with nexts := S.nexts.set (x.cell - 1) x.top, hands := S.hands.set i { x with phase := 3 } })
def markP (S : PSt) (i : Nat) (x : PHand) : Stp × PSt :=
  if x.mark ≠ x.top then (.marks x.top, S.put i { x with mark := x.top }) else if S.top ≠ x.top then (.looks false, S.put i x.anew) else (.looks true, S.put i { x with phase := 2 })
def followP (S : PSt) (i : Nat) (x : PHand) : Stp × PSt := (.follows (linkAt S.nexts x.top), S.put i { x with phase := 3, fol := linkAt S.nexts x.top })
def PSt.wtop (r : Rule) (S : PSt) (t : Nat) : PSt := { S with top := t, count := bump r S.count }
def exchP (r : Rule) (S : PSt) (i : Nat) (x : PHand) (pushes : Bool) : Stp × PSt :=
  if S.top ≠ x.top ∨ S.count ≠ x.count then (.misses, S.put i x.anew)
  else if pushes = true then (.ends doneV, (S.wtop r x.cell).done i x) else (.exchanges x.fol, (S.wtop r x.fol).put i ⟨x.num, 4, 0, x.top, 0, 0, x.mark⟩)
def letP (S : PSt) (i : Nat) (x : PHand) : Stp × PSt := (.ends (.int (valAt S.vals x.top)), { S with free := S.free ++ [x.top] }.done i x)
/-- a step of hand i, x as it stands, its deeds ds -/
def stepP (r : Rule) (S : PSt) (i : Nat) (x : PHand) (ds : List Deed) : Stp × PSt := match ds[x.num]? with
  | none => (.rests, S)
  | some (.push v) => if x.cell = 0 then takeP r S i x v else if x.phase = 0 then readP S i x true else if x.phase = 3 then exchP r S i x true else linkP S i x
  | some .pop => if x.phase = 0 then readP S i x false else if x.phase = 3 then exchP r S i x false else if x.phase = 4 then letP S i x
    else if x.phase = 1 ∧ mustMark r i = true then markP S i x else followP S i x
/-! ### the document's machine read so -/
def Hand.ph (h : Hand) : PHand := match h.deeds[h.at_]? with
  | none => ⟨h.at_, 0, 0, 0, 0, 0, h.mark⟩
  | some (.push _) => match h.seen with
    | none => ⟨h.at_, 0, h.cell, 0, 0, 0, h.mark⟩
    | some (t, k) => if h.follow.isSome then ⟨h.at_, 3, h.cell, t, k, 0, h.mark⟩ else ⟨h.at_, 1, h.cell, t, k, 0, h.mark⟩
  | some .pop => match h.seen with
    | none => ⟨h.at_, 0, 0, 0, 0, 0, h.mark⟩
    | some (t, k) => if h.cell ≠ 0 then ⟨h.at_, 4, 0, h.cell, 0, 0, h.mark⟩ else match h.follow with
      | some f => ⟨h.at_, 3, 0, t, k, f, h.mark⟩
      | none => if h.looked = true then ⟨h.at_, 2, 0, t, k, 0, h.mark⟩ else ⟨h.at_, 1, 0, t, k, 0, h.mark⟩
def Mach.ps (s : Mach) : PSt := ⟨s.top, s.count, s.links, s.free, s.vals, s.hands.map Hand.ph⟩
theorem ph_mark (h : Hand) : h.ph.mark = h.mark := by
  unfold Hand.ph
  repeat' split
  all_goals rfl
theorem ph_num (h : Hand) : h.ph.num = h.at_ := by
  unfold Hand.ph
  repeat' split
  all_goals rfl
/-- no hand follows ahead of its mark, none has anything where it has nothing to do -/
structure Fitm (r : Rule) (s : Mach) : Prop where
  fol : ∀ (i : Nat) (h : Hand), s.hands[i]? = some h → h.deeds[h.at_]? = some .pop → h.follow ≠ none → mustMark r i = true → h.looked = true
  new : ∀ (i : Nat) (h : Hand), s.hands[i]? = some h → ∀ v, h.deeds[h.at_]? = some (.push v) → h.cell = 0 → h.seen = none
  idle : ∀ (i : Nat) (h : Hand), s.hands[i]? = some h → h.deeds[h.at_]? = some .pop → h.seen = none → h.cell = 0
theorem map_set {f : Hand → PHand} {hs : List Hand} {i : Nat} {h : Hand} : (hs.set i h).map f = (hs.map f).set i (f h) := by
  rw [List.map_set]
theorem put_ps (s : Mach) (i : Nat) (h : Hand) : (s.put i h).ps = s.ps.put i h.ph := by
  unfold Mach.put Mach.ps PSt.put
  simp only [map_set]
theorem did_ph (h : Hand) (a : V) : (h.did a).ph = .ahead (h.at_ + 1) := by
  unfold Hand.ph Hand.did PHand.ahead
  dsimp only
  repeat' split
  all_goals (first | rfl | simp_all)
theorem erase_findIdx {p : Nat → Bool} : ∀ {l : List Nat} {c : Nat}, l.find? p = some c → ∃ j, l.findIdx? p = some j ∧ l.getD j 0 = c ∧ l.eraseIdx j = l.erase c
  | [], _, h => by cases h
  | x :: l, c, h => by
    rw [List.find?_cons] at h
    rw [List.findIdx?_cons]
    cases e : p x with
    | true =>
      rw [e] at h
      have h := Option.some.inj h
      subst h
      exact ⟨0, by simp, rfl, by simp⟩
    | false =>
      rw [e] at h
      obtain ⟨j, h1, h2, h3⟩ := erase_findIdx h
      have ne : x ≠ c := fun q => by
        have := List.find?_some h
        rw [← q, e] at this
        cases this
      refine ⟨j + 1, by simp [h1], by simpa using h2, ?_⟩
      rw [List.eraseIdx_cons_succ, h3, List.erase_cons_tail (by simpa using ne)]
theorem place_pick {r : Rule} {s : Mach} : (pick r s = none ∧ placeP r s.ps = none) ∨ ∃ c j, pick r s = some c ∧ placeP r s.ps = some j ∧ s.free.getD j 0 = c ∧ s.free.eraseIdx j = s.free.erase c := by
  have em : s.ps.hands.map PHand.mark = s.hands.map Hand.mark := by
    show (s.hands.map Hand.ph).map PHand.mark = _
    rw [List.map_map]
    exact List.map_congr_left fun h _ => ph_mark h
  cases r with
  | keeps => exact .inl ⟨rfl, rfl⟩
  | counts m =>
    unfold pick placeP
    dsimp only
    rw [em]
    cases e : s.free.find? (fun c => !((s.hands.map Hand.mark).contains c)) with
    | none => exact .inl ⟨rfl, by rw [List.findIdx?_eq_none_iff]; rw [List.find?_eq_none] at e; exact fun x hx => by simpa using e x hx⟩
    | some c =>
      obtain ⟨j, h1, h2, h3⟩ := erase_findIdx e
      exact .inr ⟨c, j, rfl, h1, h2, h3⟩
  | marks hs =>
    unfold pick placeP
    dsimp only
    rw [em]
    cases e : s.free.find? (fun c => !((s.hands.map Hand.mark).contains c)) with
    | none => exact .inl ⟨rfl, by rw [List.findIdx?_eq_none_iff]; rw [List.find?_eq_none] at e; exact fun x hx => by simpa using e x hx⟩
    | some c =>
      obtain ⟨j, h1, h2, h3⟩ := erase_findIdx e
      exact .inr ⟨c, j, rfl, h1, h2, h3⟩
section
variable {r : Rule} {s : Mach} {i : Nat} {h : Hand}
/-- the package's step is the document's -/
theorem step_go (len : s.vals.length = s.links.length) (B : Base s) (F : Fitm r s) (hi : s.hands[i]? = some h) : stepP r s.ps i h.ph h.deeds = ((go r s i h).1, (go r s i h).2.ps) := by
  have k := go_kind r s i h
  generalize go r s i h = g at k ⊢
  obtain ⟨st, s'⟩ := g
  dsimp only at k ⊢
  have bd := B.dim i h hi
  unfold stepP
  rw [ph_num]
  cases k with
  | rests e => rw [e]
  | takesNew v e hc hp =>
    have hs := F.new i h hi v e hc
    have ex : h.ph = ⟨h.at_, 0, 0, 0, 0, 0, h.mark⟩ := by unfold Hand.ph; rw [e]; dsimp only; rw [hs]; dsimp only; rw [hc]
    have ex2 : ({ h with cell := s.vals.length + 1 } : Hand).ph = ⟨h.at_, 0, s.vals.length + 1, 0, 0, 0, h.mark⟩ := by unfold Hand.ph; dsimp only; rw [e]; dsimp only; rw [hs]
    rw [e, ex]
    dsimp only
    rw [if_pos rfl]
    unfold takeP
    rcases place_pick (r := r) (s := s) with ⟨_, q⟩ | ⟨c, j, q, _⟩
    · rw [q]
      dsimp only
      rw [show s.ps.nexts = s.links from rfl, ← len]
      unfold Mach.ps
      dsimp only
      rw [map_set, ex2]
    · rw [hp] at q
      cases q
  | takesFree v c e hc hp =>
    have hs := F.new i h hi v e hc
    have ex : h.ph = ⟨h.at_, 0, 0, 0, 0, 0, h.mark⟩ := by unfold Hand.ph; rw [e]; dsimp only; rw [hs]; dsimp only; rw [hc]
    have ex2 : ({ h with cell := c } : Hand).ph = ⟨h.at_, 0, c, 0, 0, 0, h.mark⟩ := by unfold Hand.ph; dsimp only; rw [e]; dsimp only; rw [hs]
    rw [e, ex]
    dsimp only
    rw [if_pos rfl]
    unfold takeP
    rcases place_pick (r := r) (s := s) with ⟨q, _⟩ | ⟨c2, j, q, q2, q3, q4⟩
    · rw [hp] at q
      cases q
    · rw [hp] at q
      have q := Option.some.inj q
      subst q
      rw [q2]
      dsimp only
      rw [show s.ps.free = s.free from rfl, q3, q4]
      unfold Mach.ps
      dsimp only
      rw [map_set, ex2]
  | readsPush v e hc hs =>
    have ex : h.ph = ⟨h.at_, 0, h.cell, 0, 0, 0, h.mark⟩ := by unfold Hand.ph; rw [e]; dsimp only; rw [hs]
    have ex2 : ({ h with seen := some (s.top, s.count) } : Hand).ph = ⟨h.at_, 1, h.cell, s.top, s.count, 0, h.mark⟩ := by
      unfold Hand.ph; dsimp only; rw [e]; dsimp only; rw [(bd hs).2]; rfl
    rw [e, ex]
    dsimp only
    rw [if_neg hc, if_pos rfl]
    unfold readP
    rw [if_neg (by rintro ⟨_, z⟩; cases z), put_ps, ex2]
    rfl
  | links v t k e hc hs hf =>
    have ex : h.ph = ⟨h.at_, 1, h.cell, t, k, 0, h.mark⟩ := by unfold Hand.ph; rw [e]; dsimp only; rw [hs, hf]; rfl
    have ex2 : ({ h with follow := some t } : Hand).ph = ⟨h.at_, 3, h.cell, t, k, 0, h.mark⟩ := by unfold Hand.ph; dsimp only; rw [e]; dsimp only; rw [hs]; rfl
    rw [e, ex]
    dsimp only
    rw [if_neg hc, if_neg (by decide), if_neg (by decide)]
    unfold linkP
    unfold Mach.ps
    dsimp only
    rw [map_set, ex2]
  | pushes v f e hc hs hf =>
    have ex : h.ph = ⟨h.at_, 3, h.cell, s.top, s.count, 0, h.mark⟩ := by unfold Hand.ph; rw [e]; dsimp only; rw [hs, hf]; rfl
    rw [e, ex]
    dsimp only
    rw [if_neg hc, if_neg (by decide), if_pos rfl]
    unfold exchP
    rw [if_neg (by rintro (z | z) <;> exact z rfl), if_pos rfl]
    unfold Mach.ps PSt.wtop PSt.done PSt.put
    dsimp only
    rw [map_set, did_ph]
    rfl
  | missPush v t k f e hc hs hf hn =>
    have ex : h.ph = ⟨h.at_, 3, h.cell, t, k, 0, h.mark⟩ := by unfold Hand.ph; rw [e]; dsimp only; rw [hs, hf]; rfl
    have ex2 : h.again.ph = ⟨h.at_, 0, h.cell, 0, 0, 0, h.mark⟩ := by unfold Hand.ph Hand.again; dsimp only; rw [e]
    rw [e, ex]
    dsimp only
    rw [if_neg hc, if_neg (by decide), if_pos rfl]
    unfold exchP
    rw [if_pos (by
      by_cases z : s.top = t
      · exact .inr fun q => hn ⟨z, q⟩
      · exact .inl z), put_ps, ex2]
    rfl
  | meets e hs ht =>
    have ex : h.ph = ⟨h.at_, 0, 0, 0, 0, 0, h.mark⟩ := by unfold Hand.ph; rw [e]; dsimp only; rw [hs]
    rw [e, ex]
    dsimp only
    rw [if_pos rfl]
    unfold readP
    rw [if_pos ⟨ht, rfl⟩]
    unfold Mach.ps PSt.done PSt.put
    dsimp only
    rw [map_set, did_ph]
  | readsPop e hs ht =>
    have ex : h.ph = ⟨h.at_, 0, 0, 0, 0, 0, h.mark⟩ := by unfold Hand.ph; rw [e]; dsimp only; rw [hs]
    rw [e, ex]
    dsimp only
    rw [if_pos rfl]
    unfold readP
    rw [if_neg (by rintro ⟨z, _⟩; exact ht z), put_ps]
    have ex2 : ({ h with seen := some (s.top, s.count) } : Hand).ph = ⟨h.at_, 1, 0, s.top, s.count, 0, h.mark⟩ := by
      unfold Hand.ph; dsimp only; rw [e]; dsimp only; rw [F.idle i h hi e hs, (bd hs).1, (bd hs).2]; rfl
    rw [ex2]
    rfl
  | lets t k e hs hc =>
    have ex : h.ph = ⟨h.at_, 4, 0, h.cell, 0, 0, h.mark⟩ := by unfold Hand.ph; rw [e]; dsimp only; rw [hs]; dsimp only; rw [if_pos hc]
    rw [e, ex]
    dsimp only
    rw [if_neg (by decide), if_neg (by decide), if_pos rfl]
    unfold letP Mach.ps PSt.done PSt.put
    dsimp only
    rw [map_set, did_ph]
  | marks t k e hs hc hm hl hk =>
    have hf : h.follow = none := Classical.byContradiction fun z => by
      have := F.fol i h hi e z hm
      rw [hl] at this
      cases this
    have ex : h.ph = ⟨h.at_, 1, 0, t, k, 0, h.mark⟩ := by unfold Hand.ph; rw [e]; dsimp only; rw [hs]; dsimp only; rw [hc, hf, hl]; rfl
    have ex2 : ({ h with mark := t } : Hand).ph = ⟨h.at_, 1, 0, t, k, 0, t⟩ := by unfold Hand.ph; dsimp only; rw [e]; dsimp only; rw [hs]; dsimp only; rw [hc, hf, hl]; rfl
    rw [e, ex]
    dsimp only
    rw [if_neg (by decide), if_neg (by decide), if_neg (by decide), if_pos ⟨rfl, hm⟩]
    unfold markP
    rw [if_pos hk, put_ps, ex2]
  | looks t k e hs hc hm hl hk ht =>
    have hf : h.follow = none := Classical.byContradiction fun z => by
      have := F.fol i h hi e z hm
      rw [hl] at this
      cases this
    have ex : h.ph = ⟨h.at_, 1, 0, t, k, 0, h.mark⟩ := by unfold Hand.ph; rw [e]; dsimp only; rw [hs]; dsimp only; rw [hc, hf, hl]; rfl
    have ex2 : ({ h with looked := true } : Hand).ph = ⟨h.at_, 2, 0, t, k, 0, h.mark⟩ := by unfold Hand.ph; dsimp only; rw [e]; dsimp only; rw [hs]; dsimp only; rw [hc, hf]; rfl
    rw [e, ex]
    dsimp only
    rw [if_neg (by decide), if_neg (by decide), if_neg (by decide), if_pos ⟨rfl, hm⟩]
    unfold markP
    rw [if_neg (by simpa using hk), if_neg (show ¬ (s.ps.top ≠ t) from fun q => q ht), put_ps, ex2]
  | looksNot t k e hs hc hm hl hk ht =>
    have hf : h.follow = none := Classical.byContradiction fun z => by
      have := F.fol i h hi e z hm
      rw [hl] at this
      cases this
    have ex : h.ph = ⟨h.at_, 1, 0, t, k, 0, h.mark⟩ := by unfold Hand.ph; rw [e]; dsimp only; rw [hs]; dsimp only; rw [hc, hf, hl]; rfl
    have ex2 : h.again.ph = ⟨h.at_, 0, 0, 0, 0, 0, h.mark⟩ := by unfold Hand.ph Hand.again; dsimp only; rw [e]
    rw [e, ex]
    dsimp only
    rw [if_neg (by decide), if_neg (by decide), if_neg (by decide), if_pos ⟨rfl, hm⟩]
    unfold markP
    rw [if_neg (by simpa using hk), if_pos (show s.ps.top ≠ t from ht), put_ps, ex2]
    rfl
  | follows t k e hs hc hm hf =>
    have ex2 : ({ h with follow := some (linkAt s.links t) } : Hand).ph = ⟨h.at_, 3, 0, t, k, linkAt s.links t, h.mark⟩ := by unfold Hand.ph; dsimp only; rw [e]; dsimp only; rw [hs]; dsimp only; rw [hc]; rfl
    rcases Bool.eq_false_or_eq_true h.looked with hl | hl
    ·
      have ex : h.ph = ⟨h.at_, 2, 0, t, k, 0, h.mark⟩ := by unfold Hand.ph; rw [e]; dsimp only; rw [hs]; dsimp only; rw [hc, hf, hl]; rfl
      rw [e, ex]
      dsimp only
      rw [if_neg (by decide), if_neg (by decide), if_neg (by decide), if_neg (by rintro ⟨z, _⟩; cases z)]
      unfold followP
      rw [put_ps, ex2]
      rfl
    ·
      have ex : h.ph = ⟨h.at_, 1, 0, t, k, 0, h.mark⟩ := by unfold Hand.ph; rw [e]; dsimp only; rw [hs]; dsimp only; rw [hc, hf, hl]; rfl
      rw [e, ex]
      dsimp only
      rw [if_neg (by decide), if_neg (by decide), if_neg (by decide), if_neg (by
        rintro ⟨_, z⟩
        have := hm z
        rw [hl] at this
        cases this)]
      unfold followP
      rw [put_ps, ex2]
      rfl
  | pops f e hs hc hm hf =>
    have t0 := B.seen i h hi e _ _ hs
    have ex : h.ph = ⟨h.at_, 3, 0, s.top, s.count, f, h.mark⟩ := by unfold Hand.ph; rw [e]; dsimp only; rw [hs]; dsimp only; rw [hc, hf]; rfl
    have ex2 : ({ h with cell := s.top } : Hand).ph = ⟨h.at_, 4, 0, s.top, 0, 0, h.mark⟩ := by unfold Hand.ph; dsimp only; rw [e]; dsimp only; rw [hs]; dsimp only; rw [if_pos t0]
    rw [e, ex]
    dsimp only
    rw [if_neg (by decide), if_pos rfl]
    unfold exchP
    rw [if_neg (by rintro (z | z) <;> exact z rfl), if_neg (by decide)]
    unfold Mach.ps PSt.wtop PSt.put
    dsimp only
    rw [map_set, ex2]
  | missPop t k f e hs hc hm hf hn =>
    have ex : h.ph = ⟨h.at_, 3, 0, t, k, f, h.mark⟩ := by unfold Hand.ph; rw [e]; dsimp only; rw [hs]; dsimp only; rw [hc, hf]; rfl
    have ex2 : h.again.ph = ⟨h.at_, 0, 0, 0, 0, 0, h.mark⟩ := by unfold Hand.ph Hand.again; dsimp only; rw [e]
    rw [e, ex]
    dsimp only
    rw [if_neg (by decide), if_pos rfl]
    unfold exchP
    rw [if_pos (by
      by_cases z : s.top = t
      · exact .inr fun q => hn ⟨z, q⟩
      · exact .inl z), put_ps, ex2]
    rfl
/-- what a hand must be -/
def FitH (r : Rule) (i : Nat) (h : Hand) : Prop := (h.deeds[h.at_]? = some .pop → h.follow ≠ none → mustMark r i = true → h.looked = true) ∧ (∀ v, h.deeds[h.at_]? = some (.push v) → h.cell = 0 → h.seen = none) ∧ (h.deeds[h.at_]? = some .pop → h.seen = none → h.cell = 0)
theorem Fitm.of (F : ∀ (i : Nat) (h : Hand), s.hands[i]? = some h → FitH r i h) : Fitm r s := ⟨fun i h hi => (F i h hi).1, fun i h hi => (F i h hi).2.1, fun i h hi => (F i h hi).2.2⟩
theorem Fitm.at_ (F : Fitm r s) (hi : s.hands[i]? = some h) : FitH r i h := ⟨F.fol i h hi, F.new i h hi, F.idle i h hi⟩
theorem Fitm.set {s' : Mach} {h' : Hand} (F : Fitm r s) (hi : s.hands[i]? = some h) (e : s'.hands = s.hands.set i h') (k : FitH r i h') : Fitm r s' := by
  refine .of fun j g hj => ?_
  rw [e] at hj
  rcases get_set_cases (lt_of_get hi) hj with ⟨rfl, rfl⟩ | ⟨n, hj⟩
  · exact k
  · exact F.at_ hj
theorem fit_new {h : Hand} (hs : h.seen = none) (hf : h.follow = none) (hc : h.cell = 0) : FitH r i h := ⟨fun _ z => absurd hf z, fun _ _ _ => hs, fun _ _ => hc⟩
theorem Fitm.go {st : Stp} {s' : Mach} (B : Base s) (F : Fitm r s) (hi : s.hands[i]? = some h) (G : Go r s i h st s') : Fitm r s' := by
  have bd := B.dim i h hi
  have push : ∀ {v : Int} {g : Hand}, h.deeds[h.at_]? = some (.push v) → g.deeds = h.deeds → g.at_ = h.at_ → g.cell ≠ 0 → FitH r i g := fun {v g} e e1 e2 hc => by
    refine ⟨fun z => ?_, fun _ _ z => absurd z hc, fun z => ?_⟩
    · rw [e1, e2, e] at z
      cases z
    · rw [e1, e2, e] at z
      cases z
  have pop : ∀ {g : Hand}, h.deeds[h.at_]? = some .pop → g.deeds = h.deeds → g.at_ = h.at_ → (g.follow ≠ none → mustMark r i = true → g.looked = true) → (g.seen = none → g.cell = 0) → FitH r i g := fun {g} e e1 e2 h1 h2 => by
    refine ⟨fun _ => h1, fun v z => ?_, fun _ => h2⟩
    rw [e1, e2, e] at z
    cases z
  cases G with
  | rests e => exact F
  | takesNew v e hc hp => exact F.set hi rfl (push e rfl rfl (Nat.succ_ne_zero _))
  | takesFree v c e hc hp => exact F.set hi rfl (push e rfl rfl (B.free c (pick_mem hp)))
  | readsPush v e hc hs => exact F.set hi rfl (push e rfl rfl hc)
  | links v t k e hc hs hf => exact F.set hi rfl (push e rfl rfl hc)
  | pushes v f e hc hs hf => exact F.set hi rfl (fit_new rfl rfl rfl)
  | missPush v t k f e hc hs hf hn => exact F.set hi rfl (push e rfl rfl hc)
  | meets e hs ht => exact F.set hi rfl (fit_new rfl rfl rfl)
  | readsPop e hs ht => exact F.set hi rfl (pop e rfl rfl (fun z => absurd (bd hs).2 z) (fun z => by cases z))
  | lets t k e hs hc => exact F.set hi rfl (fit_new rfl rfl rfl)
  | marks t k e hs hc hm hl hk => exact F.set hi rfl (pop e rfl rfl (F.fol i h hi e) (fun z => hc))
  | looks t k e hs hc hm hl hk ht => exact F.set hi rfl (pop e rfl rfl (fun _ _ => rfl) (fun z => hc))
  | looksNot t k e hs hc hm hl hk ht => exact F.set hi rfl (pop e rfl rfl (fun z => absurd rfl z) (fun z => hc))
  | follows t k e hs hc hm hf => exact F.set hi rfl (pop e rfl rfl (fun _ => hm) (fun z => hc))
  | pops f e hs hc hm hf => exact F.set hi rfl (pop e rfl rfl (fun _ => hm) (fun z => by rw [hs] at z; cases z))
  | missPop t k f e hs hc hm hf hn => exact F.set hi rfl (pop e rfl rfl (fun z => absurd rfl z) (fun z => hc))
theorem Fitm.turn (B : Base s) (F : Fitm r s) : Fitm r (turn r s i).2 := by
  unfold Sk.turn
  split
  · exact F
  · rename_i h e
    exact F.go B e (go_kind r s i h)
theorem Fitm.begun (xs : List Int) (ps : List (List Deed)) : Fitm r (Mach.begun xs ps) := by
  refine .of fun i h hi => ?_
  have : (ps.map Hand.new)[i]? = some h := hi
  rw [List.getElem?_map] at this
  cases e : ps[i]? with
  | none => rw [e] at this; cases this
  | some ds =>
    rw [e] at this
    rw [← Option.some.inj this]
    exact fit_new rfl rfl rfl
theorem begun_ps (xs : List Int) (ps : List (List Deed)) : (Mach.begun xs ps).ps = PSt.begun xs ps.length := by
  unfold Mach.ps Mach.begun PSt.begun
  dsimp only
  rw [List.map_map]
  congr 1
  rw [List.eq_replicate_iff]
  refine ⟨by rw [List.length_map], fun x hx => ?_⟩
  obtain ⟨ds, _, e⟩ := List.mem_map.mp hx
  rw [← e]
  show (Hand.new ds).ph = _
  unfold Hand.ph Hand.new PHand.ahead
  dsimp only
  repeat' split
  all_goals (first | rfl | simp_all)
end
end Sk


/-! The package's states as they lie on the heap. -/
namespace Sk
open PySem PySem.Spec PyProof.Rows L2
abbrev sCounts : Str := "counts"
abbrev sMarks : Str := "marks"
abbrev sKeeps : Str := "keeps"
/-- a rule as it is handed in, at t -/
def RuleAt (H : Hp) (t : Addr) : Rule → Prop
  | .counts m => H t = some (.tup [.str sCounts, .int (m : Int)])
  | .marks hs => ∃ u, H t = some (.tup [.str sMarks, .ref u]) ∧ H u = some (.tup (vN hs))
  | .keeps => H t = some (.tup [.str sKeeps])
def Rule.fit (many : Nat) : Rule → Prop
  | .counts m => 1 ≤ m ∧ m ≤ 15
  | .marks hs => hs.Pairwise (· < ·) ∧ ∀ h ∈ hs, h < many
  | .keeps => True
theorem RuleAt.same {H H' : Hp} {t : Addr} {r : Rule} (h : RuleAt H t r) (s : Same H H') : RuleAt H' t r := by
  cases r with
  | counts m => exact s _ _ h
  | keeps => exact s _ _ h
  | marks hs =>
    obtain ⟨u, h1, h2⟩ := h
    exact ⟨u, s _ _ h1, s _ _ h2⟩
theorem RuleAt.but {H H' : Hp} {t p : Addr} {r : Rule} {l : List V} (h : RuleAt H t r) (b : But p H H') (e : H p = some (.lst l)) : RuleAt H' t r := by
  have go : ∀ {a : Addr} {xs : List V}, H a = some (.tup xs) → H' a = some (.tup xs) := fun q => b _ _ (ne_of q e (by intro z; cases z)) q
  cases r with
  | counts m => exact go h
  | keeps => exact go h
  | marks hs =>
    obtain ⟨u, h1, h2⟩ := h
    exact ⟨u, go h1, go h2⟩
theorem Paired.mono2 {α β : Type} {R S : α → β → Prop} (k : ∀ a b, R a b → S a b) : ∀ {as : List α} {bs : List β}, Paired R as bs → Paired S as bs
  | _, _, .nil => .nil
  | _, _, .cons h hs => .cons (k _ _ h) (Paired.mono2 k hs)
theorem Paired.app {α β : Type} {R : α → β → Prop} : ∀ {as cs : List α} {bs ds : List β}, Paired R as bs → Paired R cs ds → Paired R (as ++ cs) (bs ++ ds)
  | _, _, _, _, .nil, h => h
  | _, _, _, _, .cons a b, h => .cons a (Paired.app b h)
theorem Paired.rev {α β : Type} {R : α → β → Prop} : ∀ {as : List α} {bs : List β}, Paired R as bs → Paired R as.reverse bs.reverse
  | _, _, .nil => .nil
  | _, _, .cons a b => by
    rw [List.reverse_cons, List.reverse_cons]
    exact Paired.app (Paired.rev b) (.cons a .nil)
/-- a hand's deeds in a list at l -/
def ProgAt (K : PySem.W.Frag) (H : Hp) (l : Addr) (ds : List Deed) : Prop := ∃ ts : List Addr, H l = some (.lst (ts.map V.ref)) ∧ Rows K H ts (ds.map Deed.row)
/-- programs in a list of lists at R -/
def Progs (K : PySem.W.Frag) (H : Hp) (R : Addr) (ps : List (List Deed)) : Prop := ∃ ls : List Addr, H R = some (.lst (ls.map V.ref)) ∧ Paired (ProgAt K H) ls ps
theorem ProgAt.same {K : PySem.W.Frag} {H H' : Hp} {l : Addr} {ds : List Deed} (h : ProgAt K H l ds) (s : Same H H') : ProgAt K H' l ds := by
  obtain ⟨ts, h1, h2⟩ := h
  exact ⟨ts, s _ _ h1, h2.mono fun t xs z => same_tup s z⟩
theorem refs_ne {K : PySem.W.Frag} {H : Hp} {p a l : Addr} {ns : List Int} {ts : List Addr} (d : Dice K H p a ns) (h : H l = some (.lst (ts.map V.ref))) : l ≠ p := fun q => by
  obtain ⟨i, m, c, e, _⟩ := d.at_
  rw [q, e] at h
  injection h with h
  injection h with h
  match ts, h with
  | [], h => cases h
  | [_], h => cases h
  | _ :: _ :: _, h =>
    injection h with h1 h2
    injection h2 with h3 h4
    cases h3
theorem ProgAt.drew {K : PySem.W.Frag} {H H' : Hp} {p a l : Addr} {ns : List Int} {ds : List Deed} (h : ProgAt K H l ds) (d : Dice K H p a ns) (b : But p H H') : ProgAt K H' l ds := by
  obtain ⟨ts, h1, h2⟩ := h
  obtain ⟨lp, elp⟩ := d.some
  exact ⟨ts, b _ _ (refs_ne d h1) h1, h2.mono fun t xs z => sqt_but b elp z⟩
theorem Progs.same {K : PySem.W.Frag} {H H' : Hp} {R : Addr} {ps : List (List Deed)} (h : Progs K H R ps) (s : Same H H') : Progs K H' R ps := by
  obtain ⟨ls, h1, h2⟩ := h
  exact ⟨ls, s _ _ h1, Paired.mono2 (fun _ _ z => z.same s) h2⟩
theorem Progs.drew {K : PySem.W.Frag} {H H' : Hp} {p a R : Addr} {ns : List Int} {ps : List (List Deed)} (h : Progs K H R ps) (d : Dice K H p a ns) (b : But p H H') : Progs K H' R ps := by
  obtain ⟨ls, h1, h2⟩ := h
  exact ⟨ls, b _ _ (refs_ne d h1) h1, Paired.mono2 (fun _ _ z => z.drew d b) h2⟩
theorem ProgAt.upd {K : PySem.W.Frag} {H : Hp} {l m : Addr} {ds : List Deed} {xs : List V} {o : HO} (h : ProgAt K H l ds) (e : H m = some (.lst xs)) (n : l ≠ m) : ProgAt K (upd H m o) l ds := by
  obtain ⟨ts, h1, h2⟩ := h
  exact ⟨ts, by rw [upd_ne n]; exact h1, h2.mono fun t xs z => sqt_upd e z⟩
/-- one deed more, ahead -/
theorem ProgAt.ahead {K : PySem.W.Frag} {H : Hp} {l t : Addr} {d : Deed} {ds : List Deed} (h : ProgAt K H l ds) (ht : SqT K H t (rowV d.row)) : ∃ ts : List Addr, H l = some (.lst (ts.map V.ref)) ∧ ts.length = ds.length ∧ ProgAt K (L2.upd H l (.lst (V.ref t :: ts.map V.ref))) l (d :: ds) := by
  obtain ⟨ts, h1, h2⟩ := h
  have hl := h2.len
  rw [List.length_map] at hl
  exact ⟨ts, h1, hl, t :: ts, upd_same, .cons (sqt_upd h1 ht) (h2.mono fun t xs z => sqt_upd h1 z)⟩
theorem inV_nat (c : Nat) : ∀ ms : List Nat, inV (.int (c : Int)) (vN ms) = ms.contains c
  | [] => rfl
  | m :: ms => by
    have ih := inV_nat c ms
    unfold inV at ih ⊢
    show (eqV (.int (m : Int)) (.int (c : Int)) || List.any (vN ms) fun y => eqV y (.int (c : Int))) = _
    rw [ih, List.contains_cons]
    congr 1
    show ((m : Int) == (c : Int)) = (c == m)
    by_cases q : m = c
    · subst q
      rw [beq_self_eq_true, beq_self_eq_true]
    · have : (m : Int) ≠ (c : Int) := by omega
      rw [beq_eq_false_iff_ne.mpr this, beq_eq_false_iff_ne.mpr (Ne.symm q)]
theorem flat_nat : ∀ ms : List Nat, (vN ms).all flatV = true
  | [] => rfl
  | m :: ms => by
    show (true && (vN ms).all flatV) = true
    rw [flat_nat ms]
    rfl
theorem vN_int (ns : List Nat) : vN ns = (ns.map fun n : Nat => (n : Int)).map V.int := by
  unfold vN
  rw [List.map_map]
  rfl
def Rule.word : Rule → Str
  | .counts _ => sCounts
  | .marks _ => sMarks
  | .keeps => sKeeps
theorem RuleAt.word {F : Hp} {t : Addr} {r : Rule} (h : RuleAt F t r) : ∃ rest, F t = some (.tup (.str r.word :: rest)) := by
  cases r with
  | keeps => exact ⟨_, h⟩
  | counts m => exact ⟨_, h⟩
  | marks hs =>
    obtain ⟨u, r1, r2⟩ := h
    exact ⟨_, r1⟩
theorem at_ref {xs : List Addr} {i : Nat} {a : Addr} (h : xs[i]? = some a) : atI (xs.map V.ref) (i : Int) = some (.ref a) := atI_nat (by rw [List.getElem?_map, h]; rfl)
def Rule.isCounts : Rule → Bool
  | .counts _ => true
  | _ => false
theorem word_counts (r : Rule) : decide (V.str r.word = V.str sCounts) = r.isCounts := by
  cases r with
  | counts m =>
    show decide (V.str sCounts = V.str sCounts) = true
    decide +kernel
  | marks hs =>
    show decide (V.str sMarks = V.str sCounts) = false
    decide +kernel
  | keeps =>
    show decide (V.str sKeeps = V.str sCounts) = false
    decide +kernel
def Stp.row : Stp → List V
  | .rests => [.str "rests"]
  | .takes c => [.str "takes", .int (c : Int)]
  | .reads c => [.str "reads", .int (c : Int)]
  | .ends a => [.str "ends", a]
  | .links c => [.str "links", .int (c : Int)]
  | .marks c => [.str "marks", .int (c : Int)]
  | .looks b => [.str "looks", .bl b]
  | .follows c => [.str "follows", .int (c : Int)]
  | .exchanges c => [.str "exchanges", .int (c : Int)]
  | .misses => [.str "misses"]
def Rule.isMarks : Rule → Bool
  | .marks _ => true
  | _ => false
theorem word_marks (r : Rule) : decide (V.str r.word = V.str sMarks) = r.isMarks := by
  cases r with
  | counts m =>
    show decide (V.str sCounts = V.str sMarks) = false
    decide +kernel
  | marks hs =>
    show decide (V.str sMarks = V.str sMarks) = true
    decide +kernel
  | keeps =>
    show decide (V.str sKeeps = V.str sMarks) = false
    decide +kernel
theorem at_val {vs : List Int} {c : Nat} (h1 : 1 ≤ c) (h2 : c ≤ vs.length) : atI (vs.map V.int) ((c : Int) - 1) = some (.int (valAt vs c)) := by
  have e : (c : Int) - 1 = ((c - 1 : Nat) : Int) := by omega
  rw [e]
  refine atI_nat ?_
  rw [List.getElem?_map, List.getElem?_eq_getElem (show c - 1 < vs.length by omega)]
  unfold valAt
  simp [List.getD, List.getElem?_eq_getElem (show c - 1 < vs.length by omega)]
theorem at_link {ls : List Nat} {c : Nat} (h1 : 1 ≤ c) (h2 : c ≤ ls.length) : atI (vN ls) ((c : Int) - 1) = some (.int (linkAt ls c : Int)) := by
  have e : (c : Int) - 1 = ((c - 1 : Nat) : Int) := by omega
  rw [e]
  refine atI_nat ?_
  rw [List.getElem?_map, List.getElem?_eq_getElem (show c - 1 < ls.length by omega)]
  unfold linkAt
  simp [List.getD, List.getElem?_eq_getElem (show c - 1 < ls.length by omega)]
theorem dec_nat (x y : Nat) : decide (V.int (x : Int) = V.int (y : Int)) = decide (x = y) := by
  by_cases e : x = y
  · rw [decide_eq_true e, decide_eq_true (by rw [e])]
  · rw [decide_eq_false e, decide_eq_false (fun z => e (by injection z with z; omega))]
/-- POP stands at p -/
structure TxPop (K : PySem.W.Frag) (mg : Str → Option Value) (p : Addr) : Prop where
  g : mg "POP" = some (.ref p)
  at_ : ∀ H, SqT K H p [.str sPop]
theorem pop_lay : SeqAt.shaped (.tuple [.str sPop]) = true := by decide +kernel
/-- a def of the module's top -/
structure DefAt (K : PySem.W.Frag) (mg : Str → Option Value) (x : Str) (st : Stmt) : Prop where
  ex : ∃ f fd, FnP K x x st f fd ∧ mg x = some (.ref f)
theorem cal_of {P : Program} {w : World} {K : PySem.W.Frag} {mg : Str → Option Value} {base : Heap} {k : Nat} {x : Str} {st : Stmt} {f : Addr} {fd : FuncData} {ps : List Str} {sp : Sp} (F : FnP K x x st f fd) (g : mg x = some (.ref f)) (b : Binds K fd ps []) (ok : FnOk P w K mg base CX0 k f fd ps sp) : C8.Cal P w K mg base k x sp [] :=
  ⟨f, fd, ps, [], ok, g, F.kp, b, .nil⟩
section
variable {K : PySem.W.Frag} {H : Hp} {a b : Addr} {xs ys : List V} {Q : VK}
theorem sl_take {k : Nat} (e : H a = some (.tup xs)) (hk : k ≤ xs.length) (q : ∀ b H', Same H H' → H' b = some (.tup (xs.take k)) → Q (.ref b) H') : rSlA K (.ref a) none (some (k : Int)) H Q := by
  refine ⟨a, xs, rfl, SqT.of e, fun h => ?_, fun h p np => ?_⟩
  · rw [HT.sIx_nat] at h
    have : k = xs.length := by omega
    exact q a H (.refl H) (by rw [this, List.take_length]; exact e)
  · refine q p _ (same_upd np) ?_
    rw [upd_same]
    unfold cutV
    rw [HT.sIx_nat, HT.sIx_none, List.drop_zero, Nat.sub_zero, Nat.min_eq_left hk]
theorem sl_drop {k : Nat} (e : H a = some (.tup xs)) (hk : k ≤ xs.length) (q : ∀ b H', Same H H' → H' b = some (.tup (xs.drop k)) → Q (.ref b) H') : rSlA K (.ref a) (some (k : Int)) none H Q := by
  refine ⟨a, xs, rfl, SqT.of e, fun h => ?_, fun h p np => ?_⟩
  · rw [HT.sIx_nat] at h
    have : k = 0 := by omega
    exact q a H (.refl H) (by rw [this, List.drop_zero]; exact e)
  · refine q p _ (same_upd np) ?_
    rw [upd_same]
    unfold cutV
    rw [HT.sIx_nat, HT.sIx_none, Nat.min_eq_left hk, List.take_of_length_le (by rw [List.length_drop]; omega)]
theorem cat_tup (e1 : H a = some (.tup xs)) (e2 : H b = some (.tup ys)) (hl : xs.length + ys.length ≤ sizeLine) (q : ∀ c H', Same H H' → H' c = some (.tup (xs ++ ys)) → Q (.ref c) H') : rCatA K (.ref a) (.ref b) H Q := by
  refine ⟨a, b, xs, ys, rfl, rfl, SqT.of e1, SqT.of e2, hl, fun h => ?_, fun h1 h2 => ?_, fun h1 h2 p np => ?_⟩
  · subst h
    exact q b H (.refl H) e2
  · subst h2
    exact q a H (.refl H) (by rw [List.append_nil]; exact e1)
  · exact q p _ (same_upd np) upd_same
end
/-- ints -/
abbrev NT (H : Hp) (a : Addr) (ns : List Nat) : Prop := H a = some (.tup (vN ns))
def PHand.list (x : PHand) : List Nat := [x.num, x.phase, x.cell, x.top, x.count, x.fol, x.mark]
def HandsAt (H : Hp) (a : Addr) (xs : List PHand) : Prop := ∃ as : List Addr, H a = some (.tup (as.map V.ref)) ∧ Paired (fun t x => NT H t (PHand.list x)) as xs
def StAt (H : Hp) (a : Addr) (S : PSt) : Prop :=
  ∃ n f v h, H a = some (.tup [.int (S.top : Int), .int (S.count : Int), .ref n, .ref f, .ref v, .ref h]) ∧ NT H n S.nexts ∧ NT H f S.free ∧ H v = some (.tup (S.vals.map V.int)) ∧ HandsAt H h S.hands
/-- tuples stay -/
def Tups (H H' : Hp) : Prop := ∀ a xs, H a = some (.tup xs) → H' a = some (.tup xs)
theorem Tups.of {H H' : Hp} (s : Same H H') : Tups H H' := fun _ _ e => s _ _ e
theorem Tups.refl {H : Hp} : Tups H H := fun _ _ e => e
theorem Tups.trans {H H1 H2 : Hp} (a : Tups H H1) (b : Tups H1 H2) : Tups H H2 := fun _ _ e => b _ _ (a _ _ e)
theorem Tups.upd {H : Hp} {p : Addr} {o u : HO} (e : H p = some o) (n : ∀ xs, o ≠ .tup xs) : Tups H (L2.upd H p u) := fun c xs q => by
  rw [upd_ne (ne_of q e (fun z => n xs z.symm))]
  exact q
theorem HandsAt.tups {H H' : Hp} {a : Addr} {xs : List PHand} (k : Tups H H') (h : HandsAt H a xs) : HandsAt H' a xs := by
  obtain ⟨as, h1, h2⟩ := h
  exact ⟨as, k _ _ h1, Paired.mono2 (fun t x z => k _ _ z) h2⟩
theorem StAt.tups {H H' : Hp} {a : Addr} {S : PSt} (k : Tups H H') (h : StAt H a S) : StAt H' a S := by
  obtain ⟨n, f, v, hh, h1, h2, h3, h4, h5⟩ := h
  exact ⟨n, f, v, hh, k _ _ h1, k _ _ h2, k _ _ h3, k _ _ h4, h5.tups k⟩
theorem StAt.same {H H' : Hp} {a : Addr} {S : PSt} (k : Same H H') (h : StAt H a S) : StAt H' a S := h.tups (.of k)
theorem paired_get {α β : Type} {R : α → β → Prop} : ∀ {as : List α} {bs : List β} {i : Nat} {b : β}, Paired R as bs → bs[i]? = some b → ∃ a, as[i]? = some a ∧ R a b
  | _, _, _, _, .nil, e => by simp at e
  | _, _, 0, _, .cons (a := a) h hs, e => by
    have e := Option.some.inj (show some _ = some _ from e)
    exact ⟨a, rfl, e ▸ h⟩
  | _, _, i + 1, _, .cons h hs, e => by
    obtain ⟨a, h1, h2⟩ := paired_get (i := i) hs (by simpa using e)
    exact ⟨a, by simpa using h1, h2⟩
theorem paired_set {α β : Type} {R : α → β → Prop} {a : α} {b : β} (r : R a b) : ∀ {as : List α} {bs : List β} {i : Nat}, Paired R as bs → Paired R (as.set i a) (bs.set i b)
  | _, _, _, .nil => .nil
  | _, _, 0, .cons h hs => .cons r hs
  | _, _, i + 1, .cons h hs => .cons h (paired_set r hs)
theorem HandsAt.get {H : Hp} {a : Addr} {xs : List PHand} {i : Nat} {x : PHand} (h : HandsAt H a xs) (e : xs[i]? = some x) : ∃ (as : List Addr) (t : Addr), H a = some (.tup (as.map V.ref)) ∧ as[i]? = some t ∧ NT H t x.list := by
  obtain ⟨as, h1, h2⟩ := h
  obtain ⟨t, h3, h4⟩ := paired_get h2 e
  exact ⟨as, t, h1, h3, h4⟩
theorem paired_len {α β : Type} {R : α → β → Prop} : ∀ {as : List α} {bs : List β}, Paired R as bs → as.length = bs.length
  | _, _, .nil => rfl
  | _, _, .cons _ h => congrArg Nat.succ (paired_len h)
/-- told and the state behind it, in a pair at t -/
def OutAt (H : Hp) (t : Addr) (o : Stp × PSt) : Prop := ∃ u b, H t = some (.tup [.ref u, .ref b]) ∧ H u = some (.tup o.1.row) ∧ StAt H b o.2
/-- the sizes of a state are small -/
structure Few (S : PSt) : Prop where
  n : S.nexts.length ≤ 100000
  f : S.free.length ≤ 100000
  v : S.vals.length ≤ 100000
  h : S.hands.length ≤ 1000
section
variable {K : PySem.W.Frag} {H : Hp} {a t u b : Addr} {xs : List V} {v : V} {Q : VK}
theorem ixT {i : Int} (k : Nat) (hi : i = (k : Int)) (e : H a = some (.tup xs)) (z : xs[k]? = some v) (q : Q v H) : rIxT K (.ref a) (.int i) H Q := ⟨a, xs, i, v, rfl, rfl, SqT.of e, by rw [hi]; exact atI_nat z, q⟩
theorem map_ref {as : List Addr} {i : Nat} (e : as[i]? = some t) : (as.map V.ref)[i]? = some (.ref t) := by rw [List.getElem?_map, e]; rfl
theorem out_mk {o : Stp × PSt} (nt : H t = none) (eu : H u = some (.tup o.1.row)) (eb : StAt H b o.2) : OutAt (upd H t (.tup [.ref u, .ref b])) t o := ⟨u, b, upd_same, (same_upd nt) _ _ eu, eb.same (same_upd nt)⟩
theorem OutAt.same {H' : Hp} {o : Stp × PSt} (k : Same H H') (h : OutAt H t o) : OutAt H' t o := by
  obtain ⟨u, b, h1, h2, h3⟩ := h
  exact ⟨u, b, k _ _ h1, k _ _ h2, h3.same k⟩
theorem StAt.hand {S : PSt} {i : Nat} {x : PHand} (h : StAt H a S) (e : S.hands[i]? = some x) : ∃ n f v hh as t, H a = some (.tup [.int (S.top : Int), .int (S.count : Int), .ref n, .ref f, .ref v, .ref hh]) ∧ NT H n S.nexts ∧ NT H f S.free ∧ H v = some (.tup (S.vals.map V.int)) ∧
    H hh = some (.tup (as.map V.ref)) ∧ Paired (fun t x => NT H t (PHand.list x)) as S.hands ∧ as[i]? = some t ∧ NT H t x.list := by
  obtain ⟨n, f, v, hh, e0, en, ef, ev, as, eh, pr⟩ := h
  obtain ⟨t, et, ex⟩ := paired_get pr e
  exact ⟨n, f, v, hh, as, t, e0, en, ef, ev, eh, pr, et, ex⟩
theorem eqN {x : Nat} {y : Int} (k : Nat) (hy : y = (k : Int)) : decide (V.int (x : Int) = V.int y) = decide (x = k) := by
  rw [hy]
  exact dec_nat x k
theorem neN {x : Nat} {y : Int} (k : Nat) (hy : y = (k : Int)) : (!decide (V.int (x : Int) = V.int y)) = decide (x ≠ k) := by
  rw [eqN k hy]
  by_cases q : x = k <;> simp [q]
theorem ifEqN {x : Nat} {y : Int} {A B : Prop} (k : Nat) (hy : y = (k : Int)) (h1 : x = k → A) (h2 : x ≠ k → B) : if decide (V.int (x : Int) = V.int y) = true then A else B := by
  rw [eqN k hy]
  by_cases q : x = k
  · rw [decide_eq_true q, if_pos rfl]
    exact h1 q
  · rw [decide_eq_false q, if_neg (by decide)]
    exact h2 q
theorem ifNeN {x : Nat} {y : Int} {A B : Prop} (k : Nat) (hy : y = (k : Int)) (h1 : x ≠ k → A) (h2 : x = k → B) : if (!decide (V.int (x : Int) = V.int y)) = true then A else B := by
  rw [eqN k hy]
  by_cases q : x = k
  · rw [decide_eq_true q, if_neg (by decide)]
    exact h2 q
  · rw [decide_eq_false q, if_pos (by decide)]
    exact h1 q
theorem pred_nat {c : Nat} (h : 1 ≤ c) : V.int ((c : Int) - 1) = V.int ((c - 1 : Nat) : Int) := by
  congr 1
  omega
theorem vN_set (l : List Nat) (k m : Nat) : (vN l).set k (.int (m : Int)) = vN (l.set k m) := by
  unfold vN
  rw [List.map_set]
theorem ifCounts {r : Rule} {A B : Prop} (h1 : ∀ m, r = .counts m → A) (h2 : (∀ m, r ≠ .counts m) → B) : if decide (V.str r.word = V.str sCounts) = true then A else B := by
  rw [word_counts]
  cases r with
  | counts m => exact h1 m rfl
  | marks hs => exact h2 (fun m z => by cases z)
  | keeps => exact h2 (fun m z => by cases z)
theorem ifMarks {r : Rule} {A B : Prop} (h1 : ∀ hs, r = .marks hs → A) (h2 : (∀ hs, r ≠ .marks hs) → B) : if decide (V.str r.word = V.str sMarks) = true then A else B := by
  rw [word_marks]
  cases r with
  | counts m => exact h2 (fun m z => by cases z)
  | marks hs => exact h1 hs rfl
  | keeps => exact h2 (fun m z => by cases z)
def Rule.isKeeps : Rule → Bool
  | .keeps => true
  | _ => false
theorem word_keeps (r : Rule) : decide (V.str r.word = V.str sKeeps) = r.isKeeps := by
  cases r with
  | counts m =>
    show decide (V.str sCounts = V.str sKeeps) = false
    decide +kernel
  | marks hs =>
    show decide (V.str sMarks = V.str sKeeps) = false
    decide +kernel
  | keeps =>
    show decide (V.str sKeeps = V.str sKeeps) = true
    decide +kernel
theorem ifKeeps {r : Rule} {A B : Prop} (h1 : r = .keeps → A) (h2 : r ≠ .keeps → B) : if decide (V.str r.word = V.str sKeeps) = true then A else B := by
  rw [word_keeps]
  cases r with
  | counts m => exact h2 (fun z => by cases z)
  | marks hs => exact h2 (fun z => by cases z)
  | keeps => exact h1 rfl
theorem ifNotIn {c : Nat} {ms : List Nat} {A B : Prop} (h1 : ms.contains c = false → A) (h2 : ms.contains c = true → B) : if (if true = true then !inV (.int (c : Int)) (vN ms) else inV (.int (c : Int)) (vN ms)) = true then A else B := by
  rw [if_pos rfl, inV_nat]
  cases q : ms.contains c with
  | true => exact h2 q
  | false => exact h1 q
theorem ifIn {c : Nat} {ms : List Nat} {A B : Prop} (h1 : ms.contains c = true → A) (h2 : ms.contains c = false → B) : if (if false = true then !inV (.int (c : Int)) (vN ms) else inV (.int (c : Int)) (vN ms)) = true then A else B := by
  rw [show (if false = true then !inV (.int (c : Int)) (vN ms) else inV (.int (c : Int)) (vN ms)) = inV (.int (c : Int)) (vN ms) from rfl, inV_nat]
  cases q : ms.contains c with
  | true => exact h1 q
  | false => exact h2 q
theorem place_some {r : Rule} {S : PSt} {i : Nat} (hk : r ≠ .keeps) (hi : i < S.free.length) (hn : (S.hands.map PHand.mark).contains S.free[i] = false) (before : ∀ j, j < i → ∀ c, S.free[j]? = some c → (S.hands.map PHand.mark).contains c = true) : placeP r S = some i := by
  have go : (S.free.findIdx? fun c => !((S.hands.map PHand.mark).contains c)) = some i := by
    rw [List.findIdx?_eq_some_iff_getElem]
    refine ⟨hi, by rw [hn]; rfl, fun j hj => ?_⟩
    rw [before j hj _ (List.getElem?_eq_getElem (by omega))]
    decide
  cases r with
  | keeps => exact absurd rfl hk
  | counts m => exact go
  | marks hs => exact go
theorem place_none {r : Rule} {S : PSt} (before : ∀ j, j < S.free.length → ∀ c, S.free[j]? = some c → (S.hands.map PHand.mark).contains c = true) : placeP r S = none := by
  have go : (S.free.findIdx? fun c => !((S.hands.map PHand.mark).contains c)) = none := by
    rw [List.findIdx?_eq_none_iff]
    intro x hx
    obtain ⟨j, hj, e⟩ := List.mem_iff_getElem.mp hx
    rw [before j hj x (by rw [List.getElem?_eq_getElem hj, e])]
    rfl
  cases r with
  | keeps => rfl
  | counts m => exact go
  | marks hs => exact go
end
end Sk
namespace Sk
open PySem PySem.Spec PyProof.Rows L2
/-! ### what a step tells, as data -/
def Stp.word : Stp → Str
  | .rests => "rests"
  | .takes _ => "takes"
  | .reads _ => "reads"
  | .ends _ => "ends"
  | .links _ => "links"
  | .marks _ => "marks"
  | .looks _ => "looks"
  | .follows _ => "follows"
  | .exchanges _ => "exchanges"
  | .misses => "misses"
def Stp.rest : Stp → List V
  | .takes c => [.int (c : Int)]
  | .reads c => [.int (c : Int)]
  | .ends a => [a]
  | .links c => [.int (c : Int)]
  | .marks c => [.int (c : Int)]
  | .looks b => [.bl b]
  | .follows c => [.int (c : Int)]
  | .exchanges c => [.int (c : Int)]
  | _ => []
theorem row_cons (st : Stp) : st.row = .str st.word :: st.rest := by cases st <;> rfl
def Stp.restD : Stp → List PyData
  | .takes c => [.int (c : Int)]
  | .reads c => [.int (c : Int)]
  | .ends a => [ansD a]
  | .links c => [.int (c : Int)]
  | .marks c => [.int (c : Int)]
  | .looks b => [.bool b]
  | .follows c => [.int (c : Int)]
  | .exchanges c => [.int (c : Int)]
  | _ => []
def Stp.dat (st : Stp) : PyData := .tuple (.str st.word :: st.restD)
/-- its answer is one -/
def Stp.Ok : Stp → Prop
  | .ends a => IsAns a
  | _ => True
theorem stp_dp {K : PySem.W.Frag} {H : Hp} {u : Addr} {st : Stp} (ok : st.Ok) (e : SqT K H u st.row) : Dp K H (.ref u) st.dat := by
  refine .tup e ?_
  rw [row_cons]
  refine .cons (.str _) ?_
  cases st with
  | ends a => exact .cons (ans_dp ok) .nil
  | rests => exact .nil
  | misses => exact .nil
  | looks b => exact .cons (.bl _) .nil
  | takes c => exact .cons (.int _) .nil
  | reads c => exact .cons (.int _) .nil
  | links c => exact .cons (.int _) .nil
  | marks c => exact .cons (.int _) .nil
  | follows c => exact .cons (.int _) .nil
  | exchanges c => exact .cons (.int _) .nil
theorem shape1 {s : Str} (h : PyData.canLay0 (.str s) = true) : SeqAt.shaped (.tuple [.str s]) = true := by
  simp [SeqAt.shaped, PyData.canLay0, PyData.canLayAll0, PyData.depth, PyData.depthAll] at h ⊢
  exact h
theorem shape2 {s : Str} {d : PyData} (h : PyData.canLay0 (.str s) = true) (hd : PyData.canLay0 d = true) (dd : PyData.depth d = 0) : SeqAt.shaped (.tuple [.str s, d]) = true := by
  unfold SeqAt.shaped at *
  simp [PyData.canLay0, PyData.canLayAll0, PyData.depth, PyData.depthAll, dd] at h hd ⊢
  exact ⟨h, hd⟩
theorem ans_lay {a : V} (h : IsAns a) : PyData.canLay0 (ansD a) = true ∧ PyData.depth (ansD a) = 0 := by
  rcases h with rfl | rfl | ⟨i, rfl⟩
  · exact ⟨by decide +kernel, by decide +kernel⟩
  · exact ⟨by decide +kernel, by decide +kernel⟩
  · exact ⟨rfl, rfl⟩
theorem word_lay (st : Stp) : PyData.canLay0 (.str st.word) = true := by
  cases st with
  | rests =>
    show PyData.canLay0 (.str "rests") = true
    decide +kernel
  | takes _ =>
    show PyData.canLay0 (.str "takes") = true
    decide +kernel
  | reads _ =>
    show PyData.canLay0 (.str "reads") = true
    decide +kernel
  | ends _ =>
    show PyData.canLay0 (.str "ends") = true
    decide +kernel
  | links _ =>
    show PyData.canLay0 (.str "links") = true
    decide +kernel
  | marks _ =>
    show PyData.canLay0 (.str "marks") = true
    decide +kernel
  | looks _ =>
    show PyData.canLay0 (.str "looks") = true
    decide +kernel
  | follows _ =>
    show PyData.canLay0 (.str "follows") = true
    decide +kernel
  | exchanges _ =>
    show PyData.canLay0 (.str "exchanges") = true
    decide +kernel
  | misses =>
    show PyData.canLay0 (.str "misses") = true
    decide +kernel
theorem stp_lay {st : Stp} (ok : st.Ok) : SeqAt.shaped st.dat = true := by
  have h := word_lay st
  unfold Stp.dat
  cases st with
  | ends a => exact shape2 h (ans_lay ok).1 (ans_lay ok).2
  | rests => exact shape1 h
  | misses => exact shape1 h
  | looks b => exact shape2 h rfl rfl
  | takes c => exact shape2 h rfl rfl
  | reads c => exact shape2 h rfl rfl
  | links c => exact shape2 h rfl rfl
  | marks c => exact shape2 h rfl rfl
  | follows c => exact shape2 h rfl rfl
  | exchanges c => exact shape2 h rfl rfl
def Stp.isEx : Stp → Bool
  | .exchanges _ => true
  | _ => false
theorem word_ex (st : Stp) : decide (V.str st.word = V.str "exchanges") = st.isEx := by
  cases st with
  | rests =>
    show decide (V.str "rests" = V.str "exchanges") = false
    decide +kernel
  | takes _ =>
    show decide (V.str "takes" = V.str "exchanges") = false
    decide +kernel
  | reads _ =>
    show decide (V.str "reads" = V.str "exchanges") = false
    decide +kernel
  | ends _ =>
    show decide (V.str "ends" = V.str "exchanges") = false
    decide +kernel
  | links _ =>
    show decide (V.str "links" = V.str "exchanges") = false
    decide +kernel
  | marks _ =>
    show decide (V.str "marks" = V.str "exchanges") = false
    decide +kernel
  | looks _ =>
    show decide (V.str "looks" = V.str "exchanges") = false
    decide +kernel
  | follows _ =>
    show decide (V.str "follows" = V.str "exchanges") = false
    decide +kernel
  | exchanges _ =>
    show decide (V.str "exchanges" = V.str "exchanges") = true
    decide +kernel
  | misses =>
    show decide (V.str "misses" = V.str "exchanges") = false
    decide +kernel
def Stp.isEnd : Stp → Bool
  | .ends _ => true
  | _ => false
theorem word_end (st : Stp) : decide (V.str st.word = V.str "ends") = st.isEnd := by
  cases st with
  | rests =>
    show decide (V.str "rests" = V.str "ends") = false
    decide +kernel
  | takes _ =>
    show decide (V.str "takes" = V.str "ends") = false
    decide +kernel
  | reads _ =>
    show decide (V.str "reads" = V.str "ends") = false
    decide +kernel
  | ends _ =>
    show decide (V.str "ends" = V.str "ends") = true
    decide +kernel
  | links _ =>
    show decide (V.str "links" = V.str "ends") = false
    decide +kernel
  | marks _ =>
    show decide (V.str "marks" = V.str "ends") = false
    decide +kernel
  | looks _ =>
    show decide (V.str "looks" = V.str "ends") = false
    decide +kernel
  | follows _ =>
    show decide (V.str "follows" = V.str "ends") = false
    decide +kernel
  | exchanges _ =>
    show decide (V.str "exchanges" = V.str "ends") = false
    decide +kernel
  | misses =>
    show decide (V.str "misses" = V.str "ends") = false
    decide +kernel
def Stp.isDone : Stp → Bool
  | .ends (.str _) => true
  | _ => false
def Stp.isNone : Stp → Bool
  | .ends .non => true
  | _ => false
/-- the deed is decided -/
def Stp.dec (st : Stp) : Bool := st.isEx || (st.isDone || st.isNone)
theorem eqv_two (w w2 : Str) (l m : List PyData) : PyData.eqv (.tuple (.str w :: l)) (.tuple (.str w2 :: m)) = (w == w2 && PyData.eqvAll l m) := by simp [PyData.eqv, PyData.eqvAll]
theorem eqv_done {st : Stp} (ok : st.Ok) : PyData.eqv st.dat (.tuple [.str "ends", .str "done"]) = st.isDone := by
  unfold Stp.dat
  rw [eqv_two]
  cases st with
  | rests =>
    rw [show ((Stp.word (.rests)) == ("ends" : Str)) = false from (by decide +kernel : ((("rests" : Str)) == ("ends" : Str)) = false), Bool.false_and]
    rfl
  | takes c =>
    rw [show ((Stp.word (.takes c)) == ("ends" : Str)) = false from (by decide +kernel : ((("takes" : Str)) == ("ends" : Str)) = false), Bool.false_and]
    rfl
  | reads c =>
    rw [show ((Stp.word (.reads c)) == ("ends" : Str)) = false from (by decide +kernel : ((("reads" : Str)) == ("ends" : Str)) = false), Bool.false_and]
    rfl
  | ends a =>
    rw [show ((Stp.word (.ends a)) == ("ends" : Str)) = true from (by decide +kernel : ((("ends" : Str)) == ("ends" : Str)) = true), Bool.true_and]
    rcases ok with rfl | rfl | ⟨i, rfl⟩
    · decide +kernel
    · decide +kernel
    · simp [Stp.restD, ansD, PyData.eqvAll, PyData.eqv, Stp.isDone]
  | links c =>
    rw [show ((Stp.word (.links c)) == ("ends" : Str)) = false from (by decide +kernel : ((("links" : Str)) == ("ends" : Str)) = false), Bool.false_and]
    rfl
  | marks c =>
    rw [show ((Stp.word (.marks c)) == ("ends" : Str)) = false from (by decide +kernel : ((("marks" : Str)) == ("ends" : Str)) = false), Bool.false_and]
    rfl
  | looks c =>
    rw [show ((Stp.word (.looks c)) == ("ends" : Str)) = false from (by decide +kernel : ((("looks" : Str)) == ("ends" : Str)) = false), Bool.false_and]
    rfl
  | follows c =>
    rw [show ((Stp.word (.follows c)) == ("ends" : Str)) = false from (by decide +kernel : ((("follows" : Str)) == ("ends" : Str)) = false), Bool.false_and]
    rfl
  | exchanges c =>
    rw [show ((Stp.word (.exchanges c)) == ("ends" : Str)) = false from (by decide +kernel : ((("exchanges" : Str)) == ("ends" : Str)) = false), Bool.false_and]
    rfl
  | misses =>
    rw [show ((Stp.word (.misses)) == ("ends" : Str)) = false from (by decide +kernel : ((("misses" : Str)) == ("ends" : Str)) = false), Bool.false_and]
    rfl
theorem eqv_none {st : Stp} (ok : st.Ok) : PyData.eqv st.dat (.tuple [.str "ends", .none]) = st.isNone := by
  unfold Stp.dat
  rw [eqv_two]
  cases st with
  | rests =>
    rw [show ((Stp.word (.rests)) == ("ends" : Str)) = false from (by decide +kernel : ((("rests" : Str)) == ("ends" : Str)) = false), Bool.false_and]
    rfl
  | takes c =>
    rw [show ((Stp.word (.takes c)) == ("ends" : Str)) = false from (by decide +kernel : ((("takes" : Str)) == ("ends" : Str)) = false), Bool.false_and]
    rfl
  | reads c =>
    rw [show ((Stp.word (.reads c)) == ("ends" : Str)) = false from (by decide +kernel : ((("reads" : Str)) == ("ends" : Str)) = false), Bool.false_and]
    rfl
  | ends a =>
    rw [show ((Stp.word (.ends a)) == ("ends" : Str)) = true from (by decide +kernel : ((("ends" : Str)) == ("ends" : Str)) = true), Bool.true_and]
    rcases ok with rfl | rfl | ⟨i, rfl⟩
    · decide +kernel
    · decide +kernel
    · simp [Stp.restD, ansD, PyData.eqvAll, PyData.eqv, Stp.isNone]
  | links c =>
    rw [show ((Stp.word (.links c)) == ("ends" : Str)) = false from (by decide +kernel : ((("links" : Str)) == ("ends" : Str)) = false), Bool.false_and]
    rfl
  | marks c =>
    rw [show ((Stp.word (.marks c)) == ("ends" : Str)) = false from (by decide +kernel : ((("marks" : Str)) == ("ends" : Str)) = false), Bool.false_and]
    rfl
  | looks c =>
    rw [show ((Stp.word (.looks c)) == ("ends" : Str)) = false from (by decide +kernel : ((("looks" : Str)) == ("ends" : Str)) = false), Bool.false_and]
    rfl
  | follows c =>
    rw [show ((Stp.word (.follows c)) == ("ends" : Str)) = false from (by decide +kernel : ((("follows" : Str)) == ("ends" : Str)) = false), Bool.false_and]
    rfl
  | exchanges c =>
    rw [show ((Stp.word (.exchanges c)) == ("ends" : Str)) = false from (by decide +kernel : ((("exchanges" : Str)) == ("ends" : Str)) = false), Bool.false_and]
    rfl
  | misses =>
    rw [show ((Stp.word (.misses)) == ("ends" : Str)) = false from (by decide +kernel : ((("misses" : Str)) == ("ends" : Str)) = false), Bool.false_and]
    rfl
end Sk
namespace Sk
open PySem PySem.Spec PyProof.Rows L2
/-! ### a rule as data -/
def Rule.dat : Rule → PyData
  | .counts m => .tuple [.str sCounts, .int (m : Int)]
  | .marks hs => .tuple [.str sMarks, .tuple (hs.map fun n : Nat => .int (n : Int))]
  | .keeps => .tuple [.str sKeeps]
theorem dpAll_nats {K : PySem.W.Frag} {H : Hp} : ∀ ns : List Nat, DpAll K H (vN ns) (ns.map fun n : Nat => PyData.int (n : Int))
  | [] => .nil
  | _ :: ns => .cons (.int _) (dpAll_nats ns)
theorem rule_dp {K : PySem.W.Frag} {H : Hp} {t : Addr} {r : Rule} (h : RuleAt H t r) : Dp K H (.ref t) r.dat := by
  cases r with
  | counts m => exact .tup (SqT.of h) (.cons (.str _) (.cons (.int _) .nil))
  | keeps => exact .tup (SqT.of h) (.cons (.str _) .nil)
  | marks hs =>
    obtain ⟨u, h1, h2⟩ := h
    exact .tup (SqT.of h1) (.cons (.str _) (.cons (.tup (SqT.of h2) (dpAll_nats hs)) .nil))
theorem flat_lay : ∀ ns : List Nat, PyData.canLayAll0 (ns.map fun n : Nat => PyData.int (n : Int)) = true ∧ PyData.depthAll (ns.map fun n : Nat => PyData.int (n : Int)) = 0
  | [] => ⟨rfl, rfl⟩
  | n :: ns => by
    obtain ⟨h1, h2⟩ := flat_lay ns
    refine ⟨?_, ?_⟩
    · show (PyData.canLay0 (.int (n : Int)) && PyData.canLayAll0 _) = true
      rw [h1]
      rfl
    · show max (PyData.depth (.int (n : Int))) (PyData.depthAll _) = 0
      rw [h2]
      rfl
theorem shape_of {d : PyData} (h : d.canLay0 = true) (l : d.depth ≤ 64) : SeqAt.shaped d = true := by
  unfold SeqAt.shaped
  rw [h, decide_eq_true l]
  rfl
theorem rule_lay (r : Rule) : SeqAt.shaped r.dat = true := by
  cases r with
  | counts m => exact shape2 (by decide +kernel) rfl rfl
  | keeps => exact shape1 (by decide +kernel)
  | marks hs =>
    obtain ⟨h1, h2⟩ := flat_lay hs
    refine shape_of ?_ ?_
    · show (PyData.canLay0 (.str sMarks) && (PyData.canLayAll0 (hs.map fun n : Nat => PyData.int (n : Int)) && true)) = true
      rw [h1]
      decide +kernel
    · show max (PyData.depth (.str sMarks)) (max (PyData.depthAll (hs.map fun n : Nat => PyData.int (n : Int)) + 1) 0) + 1 ≤ 64
      rw [h2]
      decide
theorem rule_eqv (r : Rule) : PyData.eqv r.dat (.tuple [.str sKeeps]) = r.isKeeps := by
  cases r with
  | counts m =>
    show PyData.eqv (.tuple (.str sCounts :: _)) _ = false
    rw [eqv_two, show (sCounts == sKeeps) = false by decide +kernel, Bool.false_and]
  | keeps =>
    show PyData.eqv (.tuple (.str sKeeps :: _)) _ = true
    decide +kernel
  | marks hs =>
    show PyData.eqv (.tuple (.str sMarks :: _)) _ = false
    rw [eqv_two, show (sMarks == sKeeps) = false by decide +kernel, Bool.false_and]
end Sk


namespace Sk
open PySem PySem.Spec PyProof.Rows L2
/-- the top's statements by their places -/
def top (i : Nat) : Stmt := PySem.Challenge.pw_stalestack_k90_known_edges.main.body.getD i (.Pass ⟨0, 0, 0, 0⟩)
abbrev s_wall : Stmt := top 0
abbrev sInitP : Stmt := inClass (top 3) 0
abbrev sInitD : Stmt := inClass (top 4) 0
abbrev sIsVal : Stmt := top 11
abbrev sIsDeed : Stmt := top 12
abbrev sChkV : Stmt := top 13
abbrev sFirst : Stmt := top 14
abbrev s_check_programs : Stmt := top 19
abbrev s_are_rising_hands : Stmt := top 20
abbrev s_is_rule : Stmt := top 21
abbrev s_check_pile_and_programs : Stmt := top 22
abbrev s_check_all : Stmt := top 23
abbrev s_ahead_of : Stmt := top 43
abbrev s_first_state : Stmt := top 44
abbrev s_replaced : Stmt := top 45
abbrev s_with_hand : Stmt := top 46
abbrev s_with_deed_done : Stmt := top 47
abbrev s_to_read_anew : Stmt := top 48
abbrev s_place_to_take : Stmt := top 49
abbrev s_take : Stmt := top 50
abbrev s_read : Stmt := top 51
abbrev s_link : Stmt := top 52
abbrev s_mark_or_look : Stmt := top 53
abbrev s_follow : Stmt := top 54
abbrev s_with_top : Stmt := top 55
abbrev s_exchange : Stmt := top 56
abbrev s_let_go : Stmt := top 57
abbrev s_step : Stmt := top 58
abbrev s_decides : Stmt := top 59
abbrev s_was_stale : Stmt := top 60
abbrev s_Machine_init : Stmt := inClass (top 62) 0
abbrev s_Machine_check_hand : Stmt := inClass (top 62) 1
abbrev s_Machine_turn : Stmt := inClass (top 62) 2
abbrev s_Machine_answers : Stmt := inClass (top 62) 3
abbrev s_Machine_marked : Stmt := inClass (top 62) 4
abbrev s_Machine_order : Stmt := inClass (top 62) 5
abbrev s_Machine_top_now : Stmt := inClass (top 62) 6
abbrev s_Machine_nexts : Stmt := inClass (top 62) 7
abbrev s_Machine_free : Stmt := inClass (top 62) 8
abbrev s_Machine_pile : Stmt := inClass (top 62) 9
abbrev s_Machine_pile_values : Stmt := inClass (top 62) 10
abbrev s_Machine_is_stale : Stmt := inClass (top 62) 11
abbrev s_Machine_is_done : Stmt := inClass (top 62) 12
abbrev sDice : Stmt := top 64
abbrev sNext : Stmt := top 65
abbrev s_law_bad : Stmt := top 66
abbrev s_law_done : Stmt := top 67
abbrev sLaw : Stmt := top 68
def lawAt : Nat := 68
-- other names: ["_wall", "__name__", "PileError", "BadPile", "BadDeed", "BadRule", "NoHand", "MOST_VALUES", "HIGHEST_VALUE", "POP", "is_value", "is_deed", "check_values", "first_bad_deed", "MOST_HANDS", "MOST_DEEDS", "MOST_COUNTS", "check_programs", "are_rising_hands", "is_rule", "check_pile_and_programs", "check_all", "TOP", "COUNT", "NEXTS", "FREE", "VALUES", "HANDS", "NUMBER", "PHASE", "CELL", "TOP_READ", "COUNT_READ", "FOLLOWED", "MARK", "TO_READ", "HAS_READ", "HAS_LOOKED", "TO_EXCHANGE", "HAS_EXCHANGED", "ahead_of", "first_state", "replaced", "with_hand", "with_deed_done", "to_read_anew", "place_to_take", "take", "read", "link", "mark_or_look", "follow", "with_top", "exchange", "let_go", "step", "decides", "was_stale", "Machine", "_law_dice", "_law_next", "_law_bad", "_law_done"]
end Sk


/-! The package's steps: what each def of them promises. -/
namespace Sk
open PySem PySem.Spec PyProof.Rows L2
/-- the numbers of the module steps -/
structure TxC (mg : Str → Option Value) : Prop where
  TOP : IntG mg "TOP" 0
  COUNT : IntG mg "COUNT" 1
  NEXTS : IntG mg "NEXTS" 2
  FREE : IntG mg "FREE" 3
  VALUES : IntG mg "VALUES" 4
  HANDS : IntG mg "HANDS" 5
  NUMBER : IntG mg "NUMBER" 0
  PHASE : IntG mg "PHASE" 1
  CELL : IntG mg "CELL" 2
  TOP_READ : IntG mg "TOP_READ" 3
  COUNT_READ : IntG mg "COUNT_READ" 4
  FOLLOWED : IntG mg "FOLLOWED" 5
  MARK : IntG mg "MARK" 6
  TO_READ : IntG mg "TO_READ" 0
  HAS_READ : IntG mg "HAS_READ" 1
  HAS_LOOKED : IntG mg "HAS_LOOKED" 2
  TO_EXCHANGE : IntG mg "TO_EXCHANGE" 3
  HAS_EXCHANGED : IntG mg "HAS_EXCHANGED" 4
/-- its defs -/
structure TxS (K : PySem.W.Frag) (mg : Str → Option Value) : Prop where
  ahead_of : DefAt K mg "ahead_of" s_ahead_of
  first_state : DefAt K mg "first_state" s_first_state
  replaced : DefAt K mg "replaced" s_replaced
  with_hand : DefAt K mg "with_hand" s_with_hand
  with_deed_done : DefAt K mg "with_deed_done" s_with_deed_done
  to_read_anew : DefAt K mg "to_read_anew" s_to_read_anew
  place_to_take : DefAt K mg "place_to_take" s_place_to_take
  take : DefAt K mg "take" s_take
  read : DefAt K mg "read" s_read
  link : DefAt K mg "link" s_link
  mark_or_look : DefAt K mg "mark_or_look" s_mark_or_look
  follow : DefAt K mg "follow" s_follow
  with_top : DefAt K mg "with_top" s_with_top
  exchange : DefAt K mg "exchange" s_exchange
  let_go : DefAt K mg "let_go" s_let_go
  step : DefAt K mg "step" s_step
  c : TxC mg
  pop : ∃ p, TxPop K mg p
  len : mg "len" = none
  tuple : mg "tuple" = none
  range : mg "range" = none
  enumerate : mg "enumerate" = none
/-- the built-in names -/
structure TxBu (mg : Str → Option Value) : Prop where
  len : mg "len" = none
  tuple : mg "tuple" = none
  range : mg "range" = none
  enumerate : mg "enumerate" = none
theorem TxS.toB {K : PySem.W.Frag} {mg : Str → Option Value} (T : TxS K mg) : TxBu mg := ⟨T.len, T.tuple, T.range, T.enumerate⟩
def spReplaced : Sp := fun vs H Q _ => ∃ (a : Addr) (xs : List V) (k : Nat) (v : V), vs = [.ref a, .int (k : Int), v] ∧ H a = some (.tup xs) ∧ k < xs.length ∧ xs.length ≤ 200000 ∧
  ∀ p H', Same H H' → H' p = some (.tup (xs.set k v)) → Q (.ref p) H'
def spAhead : Sp := fun vs H Q _ => ∃ n : Nat, vs = [.int (n : Int)] ∧ ∀ p H', Same H H' → NT H' p (PHand.ahead n).list → Q (.ref p) H'
def spAnew : Sp := fun vs H Q _ => ∃ (a : Addr) (x : PHand), vs = [.ref a] ∧ NT H a x.list ∧ ∀ p H', Same H H' → NT H' p x.anew.list → Q (.ref p) H'
theorem set_cut {α : Type} : ∀ {xs : List α} {k : Nat} {v : α}, k < xs.length → xs.take k ++ [v] ++ xs.drop (k + 1) = xs.set k v
  | x :: xs, 0, v, _ => by simp
  | x :: xs, k + 1, v, h => by
    have := set_cut (xs := xs) (k := k) (v := v) (by simpa using h)
    simpa using this
section
variable {P : Program} {w : World} {K : PySem.W.Frag} {mg : Str → Option Value} {base : Heap}
theorem scReplaced : FnScope ["items", "at", "item"] ["items", "at", "item"] (defScope s_replaced) := ⟨rfl, rfl, rfl, by decide +kernel, rfl, by decide +kernel, by decide +kernel⟩
theorem cal_replaced (D : DefAt K mg "replaced" s_replaced) : C8.Cal P w K mg base 1 "replaced" spReplaced [] := by
  obtain ⟨f, fd, F, g⟩ := D.ex
  refine cal_of F g (F.bindsN fun _ _ _ _ _ _ us hl => match us, hl with | [_, _, _], _ => rfl) (fok F scReplaced (fun vs H Q E h => ?_) (fun cdv A outer s H vs Q E hr h => ?_))
  · obtain ⟨a, xs, k, v, rfl, _⟩ := h
    rfl
  · obtain ⟨a, xs, k, v, rfl, e, hk, hl, fin⟩ := h
    refine ⟨_, (pss_one (ps_ret (pe_op op_catA (pe_op op_catA (pe_slice sl_tupA (pv 0) po_none (po_some (pv 1))) (pe_tup (pa_cons (pv 2) pa_nil))) (pe_slice sl_tupA (pv 0) (po_some (pe_op op_add (pv 1) pe_int)) po_none)))), ?_⟩
    refine ⟨_, rfl, _, rfl, (k : Int), rfl, sl_take e (by omega) fun b1 H1 s1 e1 => ⟨_, rfl, by show 1 ≤ sizeLine; decide, fun p np => ?_⟩⟩
    have e1' := same_upd (o := .tup [v]) np _ _ e1
    refine cat_tup e1' upd_same ?_ fun b2 H2 s2 e2 => ?_
    · rw [sizeLine_eq, List.length_take]
      show min k xs.length + 1 ≤ _
      omega
    · have s02 : Same H H2 := (s1.trans (same_upd np)).trans s2
      refine ⟨_, rfl, _, rfl, _, _, rfl, rfl, ((k + 1 : Nat) : Int), rfl, ?_⟩
      dsimp only [tNoPart]
      refine sl_drop (k := k + 1) (s02 _ _ e) (by omega) fun b3 H3 s3 e3 => ?_
      refine cat_tup (s3 _ _ e2) e3 ?_ fun b4 H4 s4 e4 => fin b4 H4 ((s02.trans s3).trans s4) ?_
      · rw [sizeLine_eq, List.length_append, List.length_take, List.length_drop]
        show min k xs.length + 1 + (xs.length - (k + 1)) ≤ _
        omega
      · rw [e4, set_cut hk]
theorem scAhead : FnScope ["number"] ["number"] (defScope s_ahead_of) := ⟨rfl, rfl, rfl, by decide +kernel, rfl, by decide +kernel, by decide +kernel⟩
theorem cal_ahead (D : DefAt K mg "ahead_of" s_ahead_of) (C : TxC mg) : C8.Cal P w K mg base 1 "ahead_of" spAhead [] := by
  obtain ⟨f, fd, F, g⟩ := D.ex
  refine cal_of F g (F.bindsN fun _ _ _ _ _ _ us hl => match us, hl with | [_], _ => rfl) (fok F scAhead (fun vs H Q E h => ?_) (fun cdv A outer s H vs Q E hr h => ?_))
  · obtain ⟨n, rfl, _⟩ := h
    rfl
  · obtain ⟨n, rfl, fin⟩ := h
    refine ⟨_, (pss_one (ps_ret (pe_tup (pa_cons (pv 0) (pa_cons (pe_num (n := 0) rfl C.TO_READ) (pa_cons pe_int (pa_cons pe_int (pa_cons pe_int (pa_cons pe_int (pa_cons pe_int pa_nil)))))))))), ?_⟩
    exact ⟨_, rfl, by show 7 ≤ sizeLine; decide, fun p np => fin p _ (same_upd np) upd_same⟩
theorem scAnew : FnScope ["doing"] ["doing"] (defScope s_to_read_anew) := ⟨rfl, rfl, rfl, by decide +kernel, rfl, by decide +kernel, by decide +kernel⟩
theorem cal_anew (D : DefAt K mg "to_read_anew" s_to_read_anew) (C : TxC mg) : C8.Cal P w K mg base 1 "to_read_anew" spAnew [] := by
  obtain ⟨f, fd, F, g⟩ := D.ex
  refine cal_of F g (F.bindsN fun _ _ _ _ _ _ us hl => match us, hl with | [_], _ => rfl) (fok F scAnew (fun vs H Q E h => ?_) (fun cdv A outer s H vs Q E hr h => ?_))
  · obtain ⟨a, x, rfl, _⟩ := h
    rfl
  · obtain ⟨a, x, rfl, e, fin⟩ := h
    refine ⟨_, (pss_one (ps_ret (pe_tup (pa_cons (pe_ix ix_tup (pv 0) (pe_num (n := 0) rfl C.NUMBER) (fun _ _ => rfl)) (pa_cons (pe_num (n := 0) rfl C.TO_READ) (pa_cons (pe_ix ix_tup (pv 0) (pe_num (n := 2) rfl C.CELL) (fun _ _ => rfl)) (pa_cons pe_int (pa_cons pe_int (pa_cons pe_int (pa_cons (pe_ix ix_tup (pv 0) (pe_num (n := 6) rfl C.MARK) (fun _ _ => rfl)) pa_nil)))))))))), ?_⟩
    exact ⟨_, rfl, a, _, 0, _, rfl, rfl, SqT.of e, rfl, _, rfl, a, _, 2, _, rfl, rfl, SqT.of e, rfl, _, rfl, a, _, 6, _, rfl, rfl, SqT.of e, rfl, by show 7 ≤ sizeLine; decide, fun p np => fin p _ (same_upd np) upd_same⟩
/-! ### a hand's part written anew -/
def spWithHand : Sp := fun vs H Q _ => ∃ (a d : Addr) (S : PSt) (i : Nat) (x : PHand), vs = [.ref a, .int (i : Int), .ref d] ∧ StAt H a S ∧ NT H d x.list ∧ i < S.hands.length ∧ S.hands.length ≤ 1000 ∧ ∀ p H', Same H H' → StAt H' p (S.put i x) → Q (.ref p) H'
def spDone : Sp := fun vs H Q _ => ∃ (a : Addr) (S : PSt) (i : Nat) (x : PHand), vs = [.ref a, .int (i : Int)] ∧ StAt H a S ∧ S.hands[i]? = some x ∧ S.hands.length ≤ 1000 ∧ ∀ p H', Same H H' → StAt H' p (S.done i x) → Q (.ref p) H'
theorem scWithHand : FnScope ["state", "hand", "doing"] ["state", "hand", "doing"] (defScope s_with_hand) := ⟨rfl, rfl, rfl, by decide +kernel, rfl, by decide +kernel, by decide +kernel⟩
theorem cal_with_hand (T : TxS K mg) : C8.Cal P w K mg base 2 "with_hand" spWithHand [] := by
  obtain ⟨f, fd, F, g⟩ := T.with_hand.ex
  have C := T.c
  have c_replaced : C8.Cal P w K mg base 1 "replaced" spReplaced [] := cal_replaced T.replaced
  refine cal_of F g (F.bindsN fun _ _ _ _ _ _ us hl => match us, hl with | [_, _, _], _ => rfl) (fok F scWithHand (fun vs H Q E h => ?_) (fun cdv A outer s H vs Q E hr h => ?_))
  · obtain ⟨a, d, S, i, x, rfl, _⟩ := h
    rfl
  · obtain ⟨a, d, S, i, x, rfl, st, ed, hi, hl, fin⟩ := h
    refine ⟨_, (pss_one (ps_ret (C8.pe_c c_replaced hr (by decide) (by rfl) (pa_cons (pv 0) (pa_cons (pe_num (n := 5) rfl C.HANDS) (pa_cons (C8.pe_c c_replaced hr (by decide) (by rfl) (pa_cons (pe_ix ix_tup (pv 0) (pe_num (n := 5) rfl C.HANDS) (fun _ _ => rfl)) (pa_cons (pv 1) (pa_cons (pv 2) pa_nil)))) pa_nil)))))), ?_⟩
    obtain ⟨n, fr, v, hh, e0, en, ef, ev, as, eh, pr⟩ := st
    have ll := paired_len pr
    refine ⟨_, rfl, _, rfl, a, _, 5, _, rfl, rfl, SqT.of e0, rfl, _, rfl, _, rfl, hh, as.map V.ref, i, .ref d, rfl, eh, by rw [List.length_map]; omega, by rw [List.length_map]; omega, fun p1 H1 s1 e1 => ?_⟩
    refine ⟨a, _, 5, .ref p1, rfl, s1 _ _ e0, by show 5 < 6; decide, by show 6 ≤ 200000; decide, fun p2 H2 s2 e2 => fin p2 H2 (s1.trans s2) ?_⟩
    have s12 := s1.trans s2
    refine ⟨n, fr, v, p1, e2, s12 _ _ en, s12 _ _ ef, s12 _ _ ev, as.set i d, ?_, ?_⟩
    · rw [List.map_set]
      exact s2 _ _ e1
    · exact paired_set (R := fun t x => NT H2 t (PHand.list x)) (s12 _ _ ed) (Paired.mono2 (fun t x z => s12 _ _ z) pr)
theorem scDone : FnScope ["state", "hand", "number"] ["state", "hand"] (defScope s_with_deed_done) := ⟨rfl, rfl, rfl, by decide +kernel, rfl, by decide +kernel, by decide +kernel⟩
theorem cal_with_deed_done (T : TxS K mg) : C8.Cal P w K mg base 3 "with_deed_done" spDone [] := by
  obtain ⟨f, fd, F, g⟩ := T.with_deed_done.ex
  have C := T.c
  have c_with_hand : C8.Cal P w K mg base 2 "with_hand" spWithHand [] := cal_with_hand T
  have c_ahead_of : C8.Cal P w K mg base 1 "ahead_of" spAhead [] := cal_ahead T.ahead_of C
  refine cal_of F g (F.bindsN fun _ _ _ _ _ _ us hl => match us, hl with | [_, _], _ => rfl) (fok F scDone (fun vs H Q E h => ?_) (fun cdv A outer s H vs Q E hr h => ?_))
  · obtain ⟨a, S, i, x, rfl, _⟩ := h
    rfl
  · obtain ⟨a, S, i, x, rfl, st, hi, hl, fin⟩ := h
    refine ⟨_, (pss_cons
    (ps_set (i := 2) scDone.nd rfl (.inl rfl) (pe_ix ix_tup (pe_ix ix_tup (pe_ix ix_tup (pv 0) (pe_num (n := 5) rfl C.HANDS) (fun _ _ => rfl)) (pv 1) (fun _ _ => rfl)) (pe_num (n := 0) rfl C.NUMBER) (fun _ _ => rfl))) (pss_one
    (ps_ret (C8.pe_c c_with_hand hr (by decide) (by rfl) (pa_cons (pv 0) (pa_cons (pv 1) (pa_cons (C8.pe_c c_ahead_of hr (by decide) (by rfl) (pa_cons (pe_op op_add (pv 2) pe_int) pa_nil)) pa_nil))))))), ?_⟩
    obtain ⟨n, fr, v, hh, as, t, e0, en, ef, ev, eh, pr, et, ex⟩ := st.hand hi
    refine ⟨_, rfl, a, _, 5, _, rfl, rfl, SqT.of e0, rfl, _, rfl, hh, _, (i : Int), .ref t, rfl, rfl, SqT.of eh, at_ref et, t, _, 0, _, rfl, rfl, SqT.of ex, rfl, ?_⟩
    refine ⟨_, rfl, _, rfl, _, rfl, _, _, rfl, rfl, x.num + 1, rfl, fun p1 H1 s1 e1 => ?_⟩
    exact ⟨a, p1, S, i, .ahead (x.num + 1), rfl, st.same s1, e1, (List.getElem?_eq_some_iff.mp hi).1, hl, fun p2 H2 s2 e2 => fin p2 H2 (s1.trans s2) e2⟩
end
end Sk


namespace Sk
open PySem PySem.Spec PyProof.Rows L2
/-- a step of a kind: of hand i, x as it stands -/
def OutOf (vs : List V) (H : Hp) (Q : VK) (g : List V) (ok : PSt → Nat → PHand → Prop) (o : PSt → Nat → PHand → Stp × PSt) : Prop := ∃ (a : Addr) (S : PSt) (i : Nat) (x : PHand), vs = .ref a :: g ∧ StAt H a S ∧ S.hands[i]? = some x ∧ Few S ∧ ok S i x ∧ ∀ t H', Same H H' → OutAt H' t (o S i x) → Q (.ref t) H'
def spRead : Sp := fun vs H Q _ => ∃ (a : Addr) (S : PSt) (i : Nat) (x : PHand) (b : Bool), vs = [.ref a, .int (i : Int), .bl b] ∧ StAt H a S ∧ S.hands[i]? = some x ∧ Few S ∧ ∀ t H', Same H H' → OutAt H' t (readP S i x b) → Q (.ref t) H'
def spLink : Sp := fun vs H Q _ => ∃ (a : Addr) (S : PSt) (i : Nat) (x : PHand), vs = [.ref a, .int (i : Int)] ∧ StAt H a S ∧ S.hands[i]? = some x ∧ Few S ∧ 1 ≤ x.cell ∧ x.cell ≤ S.nexts.length ∧ ∀ t H', Same H H' → OutAt H' t (linkP S i x) → Q (.ref t) H'
def spMark : Sp := fun vs H Q _ => ∃ (a : Addr) (S : PSt) (i : Nat) (x : PHand), vs = [.ref a, .int (i : Int)] ∧ StAt H a S ∧ S.hands[i]? = some x ∧ Few S ∧ ∀ t H', Same H H' → OutAt H' t (markP S i x) → Q (.ref t) H'
def spFollow : Sp := fun vs H Q _ => ∃ (a : Addr) (S : PSt) (i : Nat) (x : PHand), vs = [.ref a, .int (i : Int)] ∧ StAt H a S ∧ S.hands[i]? = some x ∧ Few S ∧ 1 ≤ x.top ∧ x.top ≤ S.nexts.length ∧ ∀ t H', Same H H' → OutAt H' t (followP S i x) → Q (.ref t) H'
def spLetGo : Sp := fun vs H Q _ => ∃ (a : Addr) (S : PSt) (i : Nat) (x : PHand), vs = [.ref a, .int (i : Int)] ∧ StAt H a S ∧ S.hands[i]? = some x ∧ Few S ∧ 1 ≤ x.top ∧ x.top ≤ S.vals.length ∧ ∀ t H', Same H H' → OutAt H' t (letP S i x) → Q (.ref t) H'
section
variable {P : Program} {w : World} {K : PySem.W.Frag} {mg : Str → Option Value} {base : Heap}
theorem scRead : FnScope ["state", "hand", "pushes", "top", "doing"] ["state", "hand", "pushes"] (defScope s_read) := ⟨rfl, rfl, rfl, by decide +kernel, rfl, by decide +kernel, by decide +kernel⟩
theorem cal_read (T : TxS K mg) : C8.Cal P w K mg base 4 "read" spRead [] := by
  obtain ⟨f, fd, F, g⟩ := T.read.ex
  have C := T.c
  have c_with_hand : C8.Cal P w K mg base 2 "with_hand" spWithHand [] := cal_with_hand T
  have c_with_deed_done : C8.Cal P w K mg base 3 "with_deed_done" spDone [] := cal_with_deed_done T
  refine cal_of F g (F.bindsN fun _ _ _ _ _ _ us hl => match us, hl with | [_, _, _], _ => rfl) (fok F scRead (fun vs H Q E h => ?_) (fun cdv A outer s H vs Q E hr h => ?_))
  · obtain ⟨a, S, i, x, b, rfl, _⟩ := h
    rfl
  · obtain ⟨a, S, i, x, b, rfl, st, hi, fw, fin⟩ := h
    refine ⟨_, (pss_cons
    (ps_set (i := 3) scRead.nd rfl (.inl rfl) (pe_ix ix_tup (pv 0) (pe_num (n := 0) rfl C.TOP) (fun _ _ => rfl))) (Evl.pss_cut
    (ps_if (PW.pt (pw_and (pt_cmpR op_eq (pv 3) pe_int (nomark _)) (pw_and1 (pt_not (pt_val (pv 2)))))) (pss_one (ps_ret (pe_tup (pa_cons (pe_tup (pa_cons pe_str (pa_cons pe_non pa_nil))) (pa_cons (C8.pe_c c_with_deed_done hr (by decide) (by rfl) (pa_cons (pv 0) (pa_cons (pv 1) pa_nil))) pa_nil))))) pss_nil) (pss_cons
    (ps_set (i := 4) scRead.nd rfl (.inl rfl) (pe_ix ix_tup (pe_ix ix_tup (pv 0) (pe_num (n := 5) rfl C.HANDS) (fun _ _ => rfl)) (pv 1) (fun _ _ => rfl))) (pss_cons
    (ps_set (i := 4) scRead.nd rfl (.inl rfl) (pe_tup (pa_cons (pe_ix ix_tup (pv 4) (pe_num (n := 0) rfl C.NUMBER) (fun _ _ => rfl)) (pa_cons (pe_num (n := 1) rfl C.HAS_READ) (pa_cons (pe_ix ix_tup (pv 4) (pe_num (n := 2) rfl C.CELL) (fun _ _ => rfl)) (pa_cons (pv 3) (pa_cons (pe_ix ix_tup (pv 0) (pe_num (n := 1) rfl C.COUNT) (fun _ _ => rfl)) (pa_cons pe_int (pa_cons (pe_ix ix_tup (pv 4) (pe_num (n := 6) rfl C.MARK) (fun _ _ => rfl)) pa_nil))))))))) (pss_one
    (ps_ret (pe_tup (pa_cons (pe_tup (pa_cons pe_str (pa_cons (pv 3) pa_nil))) (pa_cons (C8.pe_c c_with_hand hr (by decide) (by rfl) (pa_cons (pv 0) (pa_cons (pv 1) (pa_cons (pv 4) pa_nil)))) pa_nil))))))))), ?_⟩
    obtain ⟨n, fr, v, hh, as, t, e0, en, ef, ev, eh, pr, et, ex⟩ := st.hand hi
    refine ⟨_, rfl, a, _, 0, _, rfl, rfl, SqT.of e0, rfl, ?_⟩
    refine ⟨fun σ' H' => σ' = [some (.ref a), some (.int (i : Int)), some (.bl b), some (.int (S.top : Int)), none] ∧ H' = H ∧ ¬ (S.top = 0 ∧ b = false), ?first, ?more⟩
    case first =>
      refine ⟨_, rfl, rfl, _, rfl, ?_⟩
      refine ifEqN 0 rfl (fun h0 => ?_) (fun h0 => ?_)
      · refine ⟨_, rfl, _, rfl, ?_⟩
        cases b with
        | false =>
          refine iteT ?_
          refine ⟨by show 2 ≤ sizeLine; decide, fun u nu => ?_⟩
          have s1 := same_upd (o := .tup [V.str "ends", .non]) nu
          refine ⟨_, rfl, _, rfl, a, S, i, x, rfl, st.same s1, hi, fw.h, fun p H2 s2 e2 => ⟨by show 2 ≤ sizeLine; decide, fun t nt => fin t _ ((s1.trans s2).trans (same_upd nt)) ?_⟩⟩
          unfold readP
          rw [if_pos ⟨h0, rfl⟩]
          exact out_mk nt (s2 _ _ upd_same) e2
        | true => exact iteF ⟨rfl, rfl, by rintro ⟨_, z⟩; cases z⟩
      · exact iteF ⟨rfl, rfl, fun z => h0 z.1⟩
    case more =>
      rintro σ' H' ⟨rfl, rfl, nq⟩
      refine ⟨_, rfl, a, _, 5, _, rfl, rfl, SqT.of e0, rfl, _, rfl, hh, _, (i : Int), .ref t, rfl, rfl, SqT.of eh, at_ref et, ?_⟩
      refine ⟨_, rfl, t, _, 0, _, rfl, rfl, SqT.of ex, rfl, _, rfl, t, _, 2, _, rfl, rfl, SqT.of ex, rfl, _, rfl, _, rfl, a, _, 1, _, rfl, rfl, SqT.of e0, rfl, _, rfl, t, _, 6, _, rfl, rfl, SqT.of ex, rfl, by show 7 ≤ sizeLine; decide, fun d nd => ?_⟩
      have s1 := same_upd (o := .tup (vN (PHand.list ⟨x.num, 1, x.cell, S.top, S.count, 0, x.mark⟩))) nd
      refine ⟨_, rfl, by show 2 ≤ sizeLine; decide, fun u nu => ?_⟩
      have s2 := same_upd (o := .tup [V.str "reads", .int (S.top : Int)]) nu
      have s12 := s1.trans s2
      refine ⟨_, rfl, _, rfl, _, rfl, a, d, S, i, ⟨x.num, 1, x.cell, S.top, S.count, 0, x.mark⟩, rfl, st.same s12, s2 _ _ upd_same, (List.getElem?_eq_some_iff.mp hi).1, fw.h, fun p H2 s3 e3 => ⟨by show 2 ≤ sizeLine; decide, fun t nt => fin t _ ((s12.trans s3).trans (same_upd nt)) ?_⟩⟩
      unfold readP
      rw [if_neg nq]
      exact out_mk nt (s3 _ _ upd_same) e3
theorem scLink : FnScope ["state", "hand", "doing", "top"] ["state", "hand"] (defScope s_link) := ⟨rfl, rfl, rfl, by decide +kernel, rfl, by decide +kernel, by decide +kernel⟩
theorem cal_link (T : TxS K mg) : C8.Cal P w K mg base 3 "link" spLink [] := by
  obtain ⟨f, fd, F, g⟩ := T.link.ex
  have C := T.c
  have c_with_hand : C8.Cal P w K mg base 2 "with_hand" spWithHand [] := cal_with_hand T
  have c_replaced : C8.Cal P w K mg base 1 "replaced" spReplaced [] := cal_replaced T.replaced
  refine cal_of F g (F.bindsN fun _ _ _ _ _ _ us hl => match us, hl with | [_, _], _ => rfl) (fok F scLink (fun vs H Q E h => ?_) (fun cdv A outer s H vs Q E hr h => ?_))
  · obtain ⟨a, S, i, x, rfl, _⟩ := h
    rfl
  · obtain ⟨a, S, i, x, rfl, st, hi, fw, c1, c2, fin⟩ := h
    refine ⟨_, (pss_cons
    (ps_set (i := 2) scLink.nd rfl (.inl rfl) (pe_ix ix_tup (pe_ix ix_tup (pv 0) (pe_num (n := 5) rfl C.HANDS) (fun _ _ => rfl)) (pv 1) (fun _ _ => rfl))) (pss_cons
    (ps_set (i := 3) scLink.nd rfl (.inl rfl) (pe_ix ix_tup (pv 2) (pe_num (n := 3) rfl C.TOP_READ) (fun _ _ => rfl))) (pss_cons
    (ps_set (i := 0) scLink.nd rfl (.inl rfl) (C8.pe_c c_replaced hr (by decide) (by rfl) (pa_cons (pv 0) (pa_cons (pe_num (n := 2) rfl C.NEXTS) (pa_cons (C8.pe_c c_replaced hr (by decide) (by rfl) (pa_cons (pe_ix ix_tup (pv 0) (pe_num (n := 2) rfl C.NEXTS) (fun _ _ => rfl)) (pa_cons (pe_op op_sub (pe_ix ix_tup (pv 2) (pe_num (n := 2) rfl C.CELL) (fun _ _ => rfl)) pe_int) (pa_cons (pv 3) pa_nil)))) pa_nil))))) (pss_one
    (ps_ret (pe_tup (pa_cons (pe_tup (pa_cons pe_str (pa_cons (pv 3) pa_nil))) (pa_cons (C8.pe_c c_with_hand hr (by decide) (by rfl) (pa_cons (pv 0) (pa_cons (pv 1) (pa_cons (C8.pe_c c_replaced hr (by decide) (by rfl) (pa_cons (pv 2) (pa_cons (pe_num (n := 1) rfl C.PHASE) (pa_cons (pe_num (n := 3) rfl C.TO_EXCHANGE) pa_nil)))) pa_nil)))) pa_nil)))))))), ?_⟩
    obtain ⟨n, fr, v, hh, as, t, e0, en, ef, ev, eh, pr, et, ex⟩ := st.hand hi
    refine ⟨_, rfl, a, _, 5, _, rfl, rfl, SqT.of e0, rfl, _, rfl, hh, _, (i : Int), .ref t, rfl, rfl, SqT.of eh, at_ref et, _, rfl, t, _, 3, _, rfl, rfl, SqT.of ex, rfl, ?_⟩
    refine ⟨_, rfl, _, rfl, a, _, 2, _, rfl, rfl, SqT.of e0, rfl, _, rfl, t, _, 2, _, rfl, rfl, SqT.of ex, rfl, _, _, rfl, rfl, _, rfl, n, vN S.nexts, x.cell - 1, .int (x.top : Int), ?_, en, by rw [List.length_map]; omega, by rw [List.length_map]; have := fw.n; omega, fun p1 H1 s1 e1 => ?_⟩
    · show [V.ref n, V.int ((x.cell : Int) - 1), _] = _
      rw [pred_nat c1]
    refine ⟨a, _, 2, .ref p1, rfl, s1 _ _ e0, by show 2 < 6; decide, by show 6 ≤ 200000; decide, fun p2 H2 s2 e2 => ?_⟩
    have s12 := s1.trans s2
    have e2 : H2 p2 = some (.tup [.int (S.top : Int), .int (S.count : Int), .ref p1, .ref fr, .ref v, .ref hh]) := e2
    have st2 : StAt H2 p2 { S with nexts := S.nexts.set (x.cell - 1) x.top } := ⟨p1, fr, v, hh, e2, by have := s2 _ _ e1; rw [vN_set] at this; exact this, s12 _ _ ef, s12 _ _ ev, as, s12 _ _ eh, Paired.mono2 (fun t x z => s12 _ _ z) pr⟩
    refine ⟨_, rfl, by show 2 ≤ sizeLine; decide, fun u nu => ?_⟩
    have s3 := same_upd (o := .tup [V.str "links", .int (x.top : Int)]) nu
    refine ⟨_, rfl, _, rfl, _, rfl, t, _, 1, .int 3, rfl, s3 _ _ (s12 _ _ ex), by show 1 < 7; decide, by show 7 ≤ 200000; decide, fun p4 H4 s4 e4 => ?_⟩
    refine ⟨p2, p4, _, i, { x with phase := 3 }, rfl, (st2.same s3).same s4, e4, (List.getElem?_eq_some_iff.mp hi).1, fw.h, fun p5 H5 s5 e5 => ⟨by show 2 ≤ sizeLine; decide, fun t5 nt => fin t5 _ ((((s12.trans s3).trans s4).trans s5).trans (same_upd nt)) ?_⟩⟩
    exact out_mk nt (s5 _ _ (s4 _ _ upd_same)) e5
theorem scFollow : FnScope ["state", "hand", "doing", "below"] ["state", "hand"] (defScope s_follow) := ⟨rfl, rfl, rfl, by decide +kernel, rfl, by decide +kernel, by decide +kernel⟩
theorem cal_follow (T : TxS K mg) : C8.Cal P w K mg base 3 "follow" spFollow [] := by
  obtain ⟨f, fd, F, g⟩ := T.follow.ex
  have C := T.c
  have c_with_hand : C8.Cal P w K mg base 2 "with_hand" spWithHand [] := cal_with_hand T
  have c_replaced : C8.Cal P w K mg base 1 "replaced" spReplaced [] := cal_replaced T.replaced
  refine cal_of F g (F.bindsN fun _ _ _ _ _ _ us hl => match us, hl with | [_, _], _ => rfl) (fok F scFollow (fun vs H Q E h => ?_) (fun cdv A outer s H vs Q E hr h => ?_))
  · obtain ⟨a, S, i, x, rfl, _⟩ := h
    rfl
  · obtain ⟨a, S, i, x, rfl, st, hi, fw, c1, c2, fin⟩ := h
    refine ⟨_, (pss_cons
    (ps_set (i := 2) scFollow.nd rfl (.inl rfl) (pe_ix ix_tup (pe_ix ix_tup (pv 0) (pe_num (n := 5) rfl C.HANDS) (fun _ _ => rfl)) (pv 1) (fun _ _ => rfl))) (pss_cons
    (ps_set (i := 3) scFollow.nd rfl (.inl rfl) (pe_ix ix_tup (pe_ix ix_tup (pv 0) (pe_num (n := 2) rfl C.NEXTS) (fun _ _ => rfl)) (pe_op op_sub (pe_ix ix_tup (pv 2) (pe_num (n := 3) rfl C.TOP_READ) (fun _ _ => rfl)) pe_int) (fun _ _ => rfl))) (pss_cons
    (ps_set (i := 2) scFollow.nd rfl (.inl rfl) (C8.pe_c c_replaced hr (by decide) (by rfl) (pa_cons (C8.pe_c c_replaced hr (by decide) (by rfl) (pa_cons (pv 2) (pa_cons (pe_num (n := 1) rfl C.PHASE) (pa_cons (pe_num (n := 3) rfl C.TO_EXCHANGE) pa_nil)))) (pa_cons (pe_num (n := 5) rfl C.FOLLOWED) (pa_cons (pv 3) pa_nil))))) (pss_one
    (ps_ret (pe_tup (pa_cons (pe_tup (pa_cons pe_str (pa_cons (pv 3) pa_nil))) (pa_cons (C8.pe_c c_with_hand hr (by decide) (by rfl) (pa_cons (pv 0) (pa_cons (pv 1) (pa_cons (pv 2) pa_nil)))) pa_nil)))))))), ?_⟩
    obtain ⟨n, fr, v, hh, as, t, e0, en, ef, ev, eh, pr, et, ex⟩ := st.hand hi
    refine ⟨_, rfl, a, _, 5, _, rfl, rfl, SqT.of e0, rfl, _, rfl, hh, _, (i : Int), .ref t, rfl, rfl, SqT.of eh, at_ref et, ?_⟩
    refine ⟨_, rfl, a, _, 2, _, rfl, rfl, SqT.of e0, rfl, _, rfl, t, _, 3, _, rfl, rfl, SqT.of ex, rfl, _, _, rfl, rfl, n, _, (x.top : Int) - 1, _, rfl, rfl, SqT.of en, at_link c1 c2, ?_⟩
    refine ⟨_, rfl, t, _, 1, .int 3, rfl, ex, by show 1 < 7; decide, by show 7 ≤ 200000; decide, fun p1 H1 s1 e1 => ?_⟩
    refine ⟨_, rfl, p1, _, 5, .int (linkAt S.nexts x.top : Int), rfl, e1, by show 5 < 7; decide, by show 7 ≤ 200000; decide, fun p2 H2 s2 e2 => ?_⟩
    have s12 := s1.trans s2
    refine ⟨_, rfl, by show 2 ≤ sizeLine; decide, fun u nu => ?_⟩
    have s3 := same_upd (o := .tup [V.str "follows", .int (linkAt S.nexts x.top : Int)]) nu
    refine ⟨_, rfl, _, rfl, _, rfl, a, p2, S, i, { x with phase := 3, fol := linkAt S.nexts x.top }, rfl, (st.same s12).same s3, s3 _ _ e2, (List.getElem?_eq_some_iff.mp hi).1, fw.h, fun p5 H5 s5 e5 => ⟨by show 2 ≤ sizeLine; decide, fun t5 nt => fin t5 _ (((s12.trans s3).trans s5).trans (same_upd nt)) ?_⟩⟩
    exact out_mk nt (s5 _ _ upd_same) e5
theorem scMark : FnScope ["state", "hand", "doing", "cell"] ["state", "hand"] (defScope s_mark_or_look) := ⟨rfl, rfl, rfl, by decide +kernel, rfl, by decide +kernel, by decide +kernel⟩
theorem cal_mark_or_look (T : TxS K mg) : C8.Cal P w K mg base 3 "mark_or_look" spMark [] := by
  obtain ⟨f, fd, F, g⟩ := T.mark_or_look.ex
  have C := T.c
  have c_with_hand : C8.Cal P w K mg base 2 "with_hand" spWithHand [] := cal_with_hand T
  have c_replaced : C8.Cal P w K mg base 1 "replaced" spReplaced [] := cal_replaced T.replaced
  have c_to_read_anew : C8.Cal P w K mg base 1 "to_read_anew" spAnew [] := cal_anew T.to_read_anew C
  refine cal_of F g (F.bindsN fun _ _ _ _ _ _ us hl => match us, hl with | [_, _], _ => rfl) (fok F scMark (fun vs H Q E h => ?_) (fun cdv A outer s H vs Q E hr h => ?_))
  · obtain ⟨a, S, i, x, rfl, _⟩ := h
    rfl
  · obtain ⟨a, S, i, x, rfl, st, hi, fw, fin⟩ := h
    refine ⟨_, (pss_cons
    (ps_set (i := 2) scMark.nd rfl (.inl rfl) (pe_ix ix_tup (pe_ix ix_tup (pv 0) (pe_num (n := 5) rfl C.HANDS) (fun _ _ => rfl)) (pv 1) (fun _ _ => rfl))) (pss_cons
    (ps_set (i := 3) scMark.nd rfl (.inl rfl) (pe_ix ix_tup (pv 2) (pe_num (n := 3) rfl C.TOP_READ) (fun _ _ => rfl))) (Evl.pss_cut
    (ps_if (pt_cmpR op_ne (pe_ix ix_tup (pv 2) (pe_num (n := 6) rfl C.MARK) (fun _ _ => rfl)) (pv 3) (nomark _)) (pss_one (ps_ret (pe_tup (pa_cons (pe_tup (pa_cons pe_str (pa_cons (pv 3) pa_nil))) (pa_cons (C8.pe_c c_with_hand hr (by decide) (by rfl) (pa_cons (pv 0) (pa_cons (pv 1) (pa_cons (C8.pe_c c_replaced hr (by decide) (by rfl) (pa_cons (pv 2) (pa_cons (pe_num (n := 6) rfl C.MARK) (pa_cons (pv 3) pa_nil)))) pa_nil)))) pa_nil))))) pss_nil) (pss_cons
    (ps_if (pt_cmpR op_ne (pe_ix ix_tup (pv 0) (pe_num (n := 0) rfl C.TOP) (fun _ _ => rfl)) (pv 3) (nomark _)) (pss_one (ps_ret (pe_tup (pa_cons (pe_tup (pa_cons pe_str (pa_cons pe_bl pa_nil))) (pa_cons (C8.pe_c c_with_hand hr (by decide) (by rfl) (pa_cons (pv 0) (pa_cons (pv 1) (pa_cons (C8.pe_c c_to_read_anew hr (by decide) (by rfl) (pa_cons (pv 2) pa_nil)) pa_nil)))) pa_nil))))) pss_nil) (pss_one
    (ps_ret (pe_tup (pa_cons (pe_tup (pa_cons pe_str (pa_cons pe_bl pa_nil))) (pa_cons (C8.pe_c c_with_hand hr (by decide) (by rfl) (pa_cons (pv 0) (pa_cons (pv 1) (pa_cons (C8.pe_c c_replaced hr (by decide) (by rfl) (pa_cons (pv 2) (pa_cons (pe_num (n := 1) rfl C.PHASE) (pa_cons (pe_num (n := 2) rfl C.HAS_LOOKED) pa_nil)))) pa_nil)))) pa_nil))))))))), ?_⟩
    obtain ⟨n, fr, v, hh, as, t, e0, en, ef, ev, eh, pr, et, ex⟩ := st.hand hi
    have il := (List.getElem?_eq_some_iff.mp hi).1
    refine ⟨_, rfl, a, _, 5, _, rfl, rfl, SqT.of e0, rfl, _, rfl, hh, _, (i : Int), .ref t, rfl, rfl, SqT.of eh, at_ref et, _, rfl, t, _, 3, _, rfl, rfl, SqT.of ex, rfl, ?_⟩
    refine ⟨fun σ' H' => σ' = [some (.ref a), some (.int (i : Int)), some (.ref t), some (.int (x.top : Int))] ∧ H' = H ∧ x.mark = x.top, ?first, ?more⟩
    case first =>
      refine ⟨_, rfl, t, _, 6, _, rfl, rfl, SqT.of ex, rfl, _, rfl, rfl, _, rfl, ifNeN x.top rfl (fun h0 => ?_) (fun h0 => ⟨rfl, rfl, h0⟩)⟩
      refine ⟨_, rfl, by show 2 ≤ sizeLine; decide, fun u nu => ?_⟩
      have s1 := same_upd (o := .tup [V.str "marks", .int (x.top : Int)]) nu
      refine ⟨_, rfl, _, rfl, _, rfl, _, rfl, t, _, 6, .int (x.top : Int), rfl, s1 _ _ ex, by show 6 < 7; decide, by show 7 ≤ 200000; decide, fun p2 H2 s2 e2 => ?_⟩
      refine ⟨a, p2, S, i, { x with mark := x.top }, rfl, (st.same s1).same s2, e2, il, fw.h, fun p5 H5 s5 e5 => ⟨by show 2 ≤ sizeLine; decide, fun t5 nt => fin t5 _ (((s1.trans s2).trans s5).trans (same_upd nt)) ?_⟩⟩
      unfold markP
      rw [if_pos h0]
      exact out_mk nt (s5 _ _ (s2 _ _ upd_same)) e5
    case more =>
      rintro σ' H' ⟨rfl, rfl, hm⟩
      refine ⟨_, rfl, a, _, 0, _, rfl, rfl, SqT.of e0, rfl, _, rfl, rfl, _, rfl, ifNeN x.top rfl (fun h0 => ?_) (fun h0 => ?_)⟩
      · refine ⟨by show 2 ≤ sizeLine; decide, fun u nu => ?_⟩
        have s1 := same_upd (o := .tup [V.str "looks", .bl false]) nu
        refine ⟨_, rfl, _, rfl, _, rfl, t, x, rfl, s1 _ _ ex, fun p2 H2 s2 e2 => ?_⟩
        refine ⟨a, p2, S, i, x.anew, rfl, (st.same s1).same s2, e2, il, fw.h, fun p5 H5 s5 e5 => ⟨by show 2 ≤ sizeLine; decide, fun t5 nt => fin t5 _ (((s1.trans s2).trans s5).trans (same_upd nt)) ?_⟩⟩
        unfold markP
        rw [if_neg (fun z => z hm), if_pos h0]
        exact out_mk nt (s5 _ _ (s2 _ _ upd_same)) e5
      · refine ⟨by show 2 ≤ sizeLine; decide, fun u nu => ?_⟩
        have s1 := same_upd (o := .tup [V.str "looks", .bl true]) nu
        refine ⟨_, rfl, _, rfl, _, rfl, t, _, 1, .int 2, rfl, s1 _ _ ex, by show 1 < 7; decide, by show 7 ≤ 200000; decide, fun p2 H2 s2 e2 => ?_⟩
        refine ⟨a, p2, S, i, { x with phase := 2 }, rfl, (st.same s1).same s2, e2, il, fw.h, fun p5 H5 s5 e5 => ⟨by show 2 ≤ sizeLine; decide, fun t5 nt => fin t5 _ (((s1.trans s2).trans s5).trans (same_upd nt)) ?_⟩⟩
        unfold markP
        rw [if_neg (fun z => z hm), if_neg (fun z => z h0)]
        exact out_mk nt (s5 _ _ (s2 _ _ upd_same)) e5
theorem scLetGo : FnScope ["state", "hand", "cell", "value"] ["state", "hand"] (defScope s_let_go) := ⟨rfl, rfl, rfl, by decide +kernel, rfl, by decide +kernel, by decide +kernel⟩
theorem cal_let_go (T : TxS K mg) : C8.Cal P w K mg base 4 "let_go" spLetGo [] := by
  obtain ⟨f, fd, F, g⟩ := T.let_go.ex
  have C := T.c
  have c_with_deed_done : C8.Cal P w K mg base 3 "with_deed_done" spDone [] := cal_with_deed_done T
  have c_replaced : C8.Cal P w K mg base 1 "replaced" spReplaced [] := cal_replaced T.replaced
  refine cal_of F g (F.bindsN fun _ _ _ _ _ _ us hl => match us, hl with | [_, _], _ => rfl) (fok F scLetGo (fun vs H Q E h => ?_) (fun cdv A outer s H vs Q E hr h => ?_))
  · obtain ⟨a, S, i, x, rfl, _⟩ := h
    rfl
  · obtain ⟨a, S, i, x, rfl, st, hi, fw, c1, c2, fin⟩ := h
    refine ⟨_, (pss_cons
    (ps_set (i := 2) scLetGo.nd rfl (.inl rfl) (pe_ix ix_tup (pe_ix ix_tup (pe_ix ix_tup (pv 0) (pe_num (n := 5) rfl C.HANDS) (fun _ _ => rfl)) (pv 1) (fun _ _ => rfl)) (pe_num (n := 3) rfl C.TOP_READ) (fun _ _ => rfl))) (pss_cons
    (ps_set (i := 3) scLetGo.nd rfl (.inl rfl) (pe_ix ix_tup (pe_ix ix_tup (pv 0) (pe_num (n := 4) rfl C.VALUES) (fun _ _ => rfl)) (pe_op op_sub (pv 2) pe_int) (fun _ _ => rfl))) (pss_cons
    (ps_set (i := 0) scLetGo.nd rfl (.inl rfl) (C8.pe_c c_replaced hr (by decide) (by rfl) (pa_cons (pv 0) (pa_cons (pe_num (n := 3) rfl C.FREE) (pa_cons (pe_op op_catA (pe_ix ix_tup (pv 0) (pe_num (n := 3) rfl C.FREE) (fun _ _ => rfl)) (pe_tup (pa_cons (pv 2) pa_nil))) pa_nil))))) (pss_one
    (ps_ret (pe_tup (pa_cons (pe_tup (pa_cons pe_str (pa_cons (pv 3) pa_nil))) (pa_cons (C8.pe_c c_with_deed_done hr (by decide) (by rfl) (pa_cons (pv 0) (pa_cons (pv 1) pa_nil))) pa_nil)))))))), ?_⟩
    obtain ⟨n, fr, v, hh, as, t, e0, en, ef, ev, eh, pr, et, ex⟩ := st.hand hi
    refine ⟨_, rfl, a, _, 5, _, rfl, rfl, SqT.of e0, rfl, _, rfl, hh, _, (i : Int), .ref t, rfl, rfl, SqT.of eh, at_ref et, t, _, 3, _, rfl, rfl, SqT.of ex, rfl, ?_⟩
    refine ⟨_, rfl, a, _, 4, _, rfl, rfl, SqT.of e0, rfl, _, rfl, _, _, rfl, rfl, v, _, (x.top : Int) - 1, _, rfl, rfl, SqT.of ev, at_val c1 c2, ?_⟩
    refine ⟨_, rfl, _, rfl, a, _, 3, _, rfl, rfl, SqT.of e0, rfl, _, rfl, by show 1 ≤ sizeLine; decide, fun p0 n0 => ?_⟩
    have s0 := same_upd (o := .tup (vN [x.top])) n0
    refine cat_tup (s0 _ _ ef) upd_same (by rw [List.length_map, sizeLine_eq]; have := fw.f; show S.free.length + 1 ≤ _; omega) fun p1 H1 s1 e1 => ?_
    have s01 := s0.trans s1
    refine ⟨a, _, 3, .ref p1, rfl, s01 _ _ e0, by show 3 < 6; decide, by show 6 ≤ 200000; decide, fun p2 H2 s2 e2 => ?_⟩
    have s02 := s01.trans s2
    have e2 : H2 p2 = some (.tup [.int (S.top : Int), .int (S.count : Int), .ref n, .ref p1, .ref v, .ref hh]) := e2
    have st2 : StAt H2 p2 { S with free := S.free ++ [x.top] } := ⟨n, p1, v, hh, e2, s02 _ _ en, by have := s2 _ _ e1; show H2 p1 = some (.tup (vN (S.free ++ [x.top]))); unfold vN; rw [List.map_append]; exact this, s02 _ _ ev, as, s02 _ _ eh, Paired.mono2 (fun t x z => s02 _ _ z) pr⟩
    refine ⟨_, rfl, by show 2 ≤ sizeLine; decide, fun u nu => ?_⟩
    have s3 := same_upd (o := .tup [V.str "ends", .int (valAt S.vals x.top)]) nu
    refine ⟨_, rfl, _, rfl, p2, _, i, x, rfl, st2.same s3, hi, fw.h, fun p5 H5 s5 e5 => ⟨by show 2 ≤ sizeLine; decide, fun t5 nt => fin t5 _ (((s02.trans s3).trans s5).trans (same_upd nt)) ?_⟩⟩
    exact out_mk nt (s5 _ _ upd_same) e5
end
end Sk


namespace Sk
open PySem PySem.Spec PyProof.Rows L2
/-- counts are from one on -/
def Rule.pos (r : Rule) : Prop := ∀ m, r = .counts m → 1 ≤ m
def spWithTop : Sp := fun vs H Q _ => ∃ (a rl : Addr) (S : PSt) (r : Rule) (c : Nat), vs = [.ref a, .ref rl, .int (c : Int)] ∧ StAt H a S ∧ RuleAt H rl r ∧ r.pos ∧ ∀ p H', Same H H' → StAt H' p (S.wtop r c) → Q (.ref p) H'
def spExchange : Sp := fun vs H Q _ => ∃ (a rl : Addr) (S : PSt) (r : Rule) (i : Nat) (x : PHand) (b : Bool), vs = [.ref a, .ref rl, .int (i : Int), .bl b] ∧ StAt H a S ∧ RuleAt H rl r ∧ r.pos ∧ S.hands[i]? = some x ∧ Few S ∧ ∀ t H', Same H H' → OutAt H' t (exchP r S i x b) → Q (.ref t) H'
def placeV : Option Nat → V
  | none => .non
  | some j => .int (j : Int)
def spPlace : Sp := fun vs H Q _ => ∃ (a rl : Addr) (S : PSt) (r : Rule), vs = [.ref a, .ref rl] ∧ StAt H a S ∧ RuleAt H rl r ∧ Few S ∧ ∀ H', Same H H' → Q (placeV (placeP r S)) H'
def spTake : Sp := fun vs H Q _ => ∃ (a rl : Addr) (S : PSt) (r : Rule) (i : Nat) (x : PHand) (v : Int), vs = [.ref a, .ref rl, .int (i : Int), .int v] ∧ StAt H a S ∧ RuleAt H rl r ∧ S.hands[i]? = some x ∧ Few S ∧ S.nexts.length = S.vals.length ∧ (∀ c ∈ S.free, 1 ≤ c ∧ c ≤ S.vals.length) ∧ ∀ t H', Same H H' → OutAt H' t (takeP r S i x v) → Q (.ref t) H'
def spFirstState (K : PySem.W.Frag) : Sp := fun vs H Q _ => ∃ (a : Addr) (xs : List Int) (n : Nat), vs = [.ref a, .int (n : Int)] ∧ SqL K H a (xs.map V.int) ∧ xs.length ≤ 1000 ∧ 1 ≤ n ∧ n ≤ 1000 ∧ ∀ p H', Same H H' → StAt H' p (PSt.begun xs n) → Q (.ref p) H'
section
variable {P : Program} {w : World} {K : PySem.W.Frag} {mg : Str → Option Value} {base : Heap}
theorem scWithTop : FnScope ["state", "rule", "top", "count"] ["state", "rule", "top"] (defScope s_with_top) := ⟨rfl, rfl, rfl, by decide +kernel, rfl, by decide +kernel, by decide +kernel⟩
theorem cal_with_top (T : TxS K mg) : C8.Cal P w K mg base 1 "with_top" spWithTop [] := by
  obtain ⟨f, fd, F, g⟩ := T.with_top.ex
  have C := T.c
  refine cal_of F g (F.bindsN fun _ _ _ _ _ _ us hl => match us, hl with | [_, _, _], _ => rfl) (fok F scWithTop (fun vs H Q E h => ?_) (fun cdv A outer s H vs Q E hr h => ?_))
  · obtain ⟨a, rl, S, r, c, rfl, _⟩ := h
    rfl
  · obtain ⟨a, rl, S, r, c, rfl, st, ru, rp, fin⟩ := h
    refine ⟨_, (pss_cons
    (ps_set (i := 3) scWithTop.nd rfl (.inl rfl) (pe_ix ix_tup (pv 0) (pe_num (n := 1) rfl C.COUNT) (fun _ _ => rfl))) (Evl.pss_cut
    (ps_if (pt_cmpR op_eq (pe_ix ix_tup (pv 1) pe_int (fun _ _ => rfl)) pe_str (nomark _)) (pss_one (ps_set (i := 3) scWithTop.nd rfl (.inl rfl) (pe_op op_mod (pe_op op_add (pv 3) pe_int) (pe_ix ix_tup (pv 1) pe_int (fun _ _ => rfl))))) pss_nil) (pss_one
    (ps_ret (pe_op op_catA (pe_tup (pa_cons (pv 2) (pa_cons (pv 3) pa_nil))) (pe_slice sl_tupA (pv 0) (po_some (pe_num (n := 2) rfl C.NEXTS)) po_none)))))), ?_⟩
    obtain ⟨n, fr, v, hh, e0, en, ef, ev, eh⟩ := id st
    obtain ⟨rest, eT⟩ := ru.word
    refine ⟨_, rfl, a, _, 1, _, rfl, rfl, SqT.of e0, rfl, ?_⟩
    refine ⟨fun σ' H' => σ' = [some (.ref a), some (.ref rl), some (.int (c : Int)), some (.int (bump r S.count : Int))] ∧ H' = H, ?first, ?more⟩
    case first =>
      refine ⟨_, rfl, rl, _, 0, .str r.word, rfl, rfl, SqT.of eT, atI_nat (j := 0) rfl, rfl, _, rfl, ifCounts (fun m hm => ?_) (fun hm => ⟨?_, rfl⟩)⟩
      · subst hm
        have m1 := rp m rfl
        refine ⟨_, rfl, _, _, rfl, rfl, _, rfl, rl, _, 1, .int (m : Int), rfl, rfl, SqT.of ru, rfl, _, _, rfl, rfl, by omega, rfl, rfl⟩
      · have e : bump r S.count = S.count := by
          cases r with
          | counts m => exact absurd rfl (hm m)
          | marks hs => rfl
          | keeps => rfl
        rw [e]
        rfl
    case more =>
      rintro σ' H' ⟨rfl, rfl⟩
      refine ⟨_, rfl, _, rfl, by show 2 ≤ sizeLine; decide, fun u nu => ?_⟩
      have s1 := same_upd (o := .tup [V.int (c : Int), .int (bump r S.count : Int)]) nu
      refine ⟨_, rfl, 2, rfl, ?_⟩
      dsimp only [tNoPart]
      refine sl_drop (k := 2) (s1 _ _ e0) (by show 2 ≤ 6; decide) fun b2 H2 s2 e2 => ?_
      refine cat_tup (s2 _ _ upd_same) e2 (by show 2 + 4 ≤ sizeLine; decide) fun b3 H3 s3 e3 => fin b3 H3 ((s1.trans s2).trans s3) ?_
      have s13 := (s1.trans s2).trans s3
      exact ⟨n, fr, v, hh, e3, s13 _ _ en, s13 _ _ ef, s13 _ _ ev, eh.tups (.of s13)⟩
theorem scExchange : FnScope ["state", "rule", "hand", "pushes", "doing", "below"] ["state", "rule", "hand", "pushes"] (defScope s_exchange) := ⟨rfl, rfl, rfl, by decide +kernel, rfl, by decide +kernel, by decide +kernel⟩
theorem cal_exchange (T : TxS K mg) : C8.Cal P w K mg base 4 "exchange" spExchange [] := by
  obtain ⟨f, fd, F, g⟩ := T.exchange.ex
  have C := T.c
  have c_with_hand : C8.Cal P w K mg base 2 "with_hand" spWithHand [] := cal_with_hand T
  have c_with_deed_done : C8.Cal P w K mg base 3 "with_deed_done" spDone [] := cal_with_deed_done T
  have c_with_top : C8.Cal P w K mg base 1 "with_top" spWithTop [] := cal_with_top T
  have c_to_read_anew : C8.Cal P w K mg base 1 "to_read_anew" spAnew [] := cal_anew T.to_read_anew C
  refine cal_of F g (F.bindsN fun _ _ _ _ _ _ us hl => match us, hl with | [_, _, _, _], _ => rfl) (fok F scExchange (fun vs H Q E h => ?_) (fun cdv A outer s H vs Q E hr h => ?_))
  · obtain ⟨a, rl, S, r, i, x, b, rfl, _⟩ := h
    rfl
  · obtain ⟨a, rl, S, r, i, x, b, rfl, st, ru, rp, hi, fw, fin⟩ := h
    refine ⟨_, (pss_cons
    (ps_set (i := 4) scExchange.nd rfl (.inl rfl) (pe_ix ix_tup (pe_ix ix_tup (pv 0) (pe_num (n := 5) rfl C.HANDS) (fun _ _ => rfl)) (pv 2) (fun _ _ => rfl))) (Evl.pss_cut
    (ps_if (PW.pt (pw_or (pt_cmpR op_ne (pe_ix ix_tup (pv 0) (pe_num (n := 0) rfl C.TOP) (fun _ _ => rfl)) (pe_ix ix_tup (pv 4) (pe_num (n := 3) rfl C.TOP_READ) (fun _ _ => rfl)) (nomark _)) (pw_or1 (pt_cmpR op_ne (pe_ix ix_tup (pv 0) (pe_num (n := 1) rfl C.COUNT) (fun _ _ => rfl)) (pe_ix ix_tup (pv 4) (pe_num (n := 4) rfl C.COUNT_READ) (fun _ _ => rfl)) (nomark _))))) (pss_one (ps_ret (pe_tup (pa_cons (pe_tup (pa_cons pe_str pa_nil)) (pa_cons (C8.pe_c c_with_hand hr (by decide) (by rfl) (pa_cons (pv 0) (pa_cons (pv 2) (pa_cons (C8.pe_c c_to_read_anew hr (by decide) (by rfl) (pa_cons (pv 4) pa_nil)) pa_nil)))) pa_nil))))) pss_nil) (Evl.pss_cut
    (ps_if (pt_val (pv 3)) (pss_one (ps_ret (pe_tup (pa_cons (pe_tup (pa_cons pe_str (pa_cons pe_str pa_nil))) (pa_cons (C8.pe_c c_with_deed_done hr (by decide) (by rfl) (pa_cons (C8.pe_c c_with_top hr (by decide) (by rfl) (pa_cons (pv 0) (pa_cons (pv 1) (pa_cons (pe_ix ix_tup (pv 4) (pe_num (n := 2) rfl C.CELL) (fun _ _ => rfl)) pa_nil)))) (pa_cons (pv 2) pa_nil))) pa_nil))))) pss_nil) (pss_cons
    (ps_set (i := 5) scExchange.nd rfl (.inl rfl) (pe_ix ix_tup (pv 4) (pe_num (n := 5) rfl C.FOLLOWED) (fun _ _ => rfl))) (pss_cons
    (ps_set (i := 4) scExchange.nd rfl (.inl rfl) (pe_tup (pa_cons (pe_ix ix_tup (pv 4) (pe_num (n := 0) rfl C.NUMBER) (fun _ _ => rfl)) (pa_cons (pe_num (n := 4) rfl C.HAS_EXCHANGED) (pa_cons pe_int (pa_cons (pe_ix ix_tup (pv 4) (pe_num (n := 3) rfl C.TOP_READ) (fun _ _ => rfl)) (pa_cons pe_int (pa_cons pe_int (pa_cons (pe_ix ix_tup (pv 4) (pe_num (n := 6) rfl C.MARK) (fun _ _ => rfl)) pa_nil))))))))) (pss_one
    (ps_ret (pe_tup (pa_cons (pe_tup (pa_cons pe_str (pa_cons (pv 5) pa_nil))) (pa_cons (C8.pe_c c_with_hand hr (by decide) (by rfl) (pa_cons (C8.pe_c c_with_top hr (by decide) (by rfl) (pa_cons (pv 0) (pa_cons (pv 1) (pa_cons (pv 5) pa_nil)))) (pa_cons (pv 2) (pa_cons (pv 4) pa_nil)))) pa_nil)))))))))), ?_⟩
    obtain ⟨n, fr, v, hh, as, t, e0, en, ef, ev, eh, pr, et, ex⟩ := st.hand hi
    have il := (List.getElem?_eq_some_iff.mp hi).1
    refine ⟨_, rfl, a, _, 5, _, rfl, rfl, SqT.of e0, rfl, _, rfl, hh, _, (i : Int), .ref t, rfl, rfl, SqT.of eh, at_ref et, ?_⟩
    refine ⟨fun σ' H' => σ' = [some (.ref a), some (.ref rl), some (.int (i : Int)), some (.bl b), some (.ref t), none] ∧ H' = H ∧ ¬ (S.top ≠ x.top ∨ S.count ≠ x.count), ?first, ?more⟩
    case first =>
      have miss : (S.top ≠ x.top ∨ S.count ≠ x.count) → ∀ u, H u = none → ∀ p2 H2, Same (upd H u (.tup [V.str "misses"])) H2 → NT H2 p2 x.anew.list → spWithHand [.ref a, .int (i : Int), .ref p2] H2 (fun y H5 => (2 ≤ sizeLine) ∧ ∀ t5, H5 t5 = none → Q (.ref t5) (upd H5 t5 (.tup [.ref u, y]))) (fun _ _ _ => False) := fun hm u nu p2 H2 s2 e2 => by
        have s1 := same_upd (o := .tup [V.str "misses"]) nu
        refine ⟨a, p2, S, i, x.anew, rfl, (st.same s1).same s2, e2, il, fw.h, fun p5 H5 s5 e5 => ⟨by decide, fun t5 nt => fin t5 _ (((s1.trans s2).trans s5).trans (same_upd nt)) ?_⟩⟩
        unfold exchP
        rw [if_pos hm]
        exact out_mk nt (s5 _ _ (s2 _ _ upd_same)) e5
      refine ⟨_, rfl, a, _, 0, _, rfl, rfl, SqT.of e0, rfl, _, rfl, t, _, 3, _, rfl, rfl, SqT.of ex, rfl, rfl, _, rfl, ifNeN x.top rfl (fun h0 => iteT ?_) (fun h0 => ?_)⟩
      · exact ⟨by show 1 ≤ sizeLine; decide, fun u nu => ⟨_, rfl, _, rfl, _, rfl, t, x, rfl, same_upd nu _ _ ex, fun p2 H2 s2 e2 => miss (.inl h0) u nu p2 H2 s2 e2⟩⟩
      · refine ⟨_, rfl, a, _, 1, _, rfl, rfl, SqT.of e0, rfl, _, rfl, t, _, 4, _, rfl, rfl, SqT.of ex, rfl, rfl, _, rfl, ifNeN x.count rfl (fun h1 => ?_) (fun h1 => ?_)⟩
        · exact ⟨by show 1 ≤ sizeLine; decide, fun u nu => ⟨_, rfl, _, rfl, _, rfl, t, x, rfl, same_upd nu _ _ ex, fun p2 H2 s2 e2 => miss (.inr h1) u nu p2 H2 s2 e2⟩⟩
        · exact ⟨rfl, rfl, by rintro (z | z); exact z h0; exact z h1⟩
    case more =>
      rintro σ' H' ⟨rfl, rfl, hm⟩
      refine ⟨fun σ' H1 => σ' = [some (.ref a), some (.ref rl), some (.int (i : Int)), some (.bl b), some (.ref t), none] ∧ H1 = H' ∧ b = false, ?first, ?more⟩
      case first =>
        refine ⟨_, rfl, _, rfl, ?_⟩
        cases b with
        | false => exact iteF ⟨rfl, rfl, rfl⟩
        | true =>
          refine iteT ⟨by show 2 ≤ sizeLine; decide, fun u nu => ?_⟩
          have s1 := same_upd (o := .tup [V.str "ends", doneV]) nu
          have ex1 := s1 _ _ ex
          refine ⟨_, rfl, _, rfl, _, rfl, t, _, 2, _, rfl, rfl, SqT.of ex1, rfl, a, rl, S, r, x.cell, rfl, st.same s1, ru.same s1, rp, fun p2 H2 s2 e2 => ?_⟩
          refine ⟨_, rfl, p2, _, i, x, rfl, e2, hi, fw.h, fun p5 H5 s5 e5 => ⟨by show 2 ≤ sizeLine; decide, fun t5 nt => fin t5 _ (((s1.trans s2).trans s5).trans (same_upd nt)) ?_⟩⟩
          unfold exchP
          rw [if_neg hm, if_pos rfl]
          exact out_mk nt (s5 _ _ (s2 _ _ upd_same)) e5
      case more =>
        rintro σ' H1 ⟨rfl, rfl, rfl⟩
        refine ⟨_, rfl, t, _, 5, _, rfl, rfl, SqT.of ex, rfl, _, rfl, t, _, 0, _, rfl, rfl, SqT.of ex, rfl, _, rfl, t, _, 3, _, rfl, rfl, SqT.of ex, rfl, _, rfl, t, _, 6, _, rfl, rfl, SqT.of ex, rfl, by show 7 ≤ sizeLine; decide, fun d nd => ?_⟩
        have s1 := same_upd (o := .tup (vN (PHand.list ⟨x.num, 4, 0, x.top, 0, 0, x.mark⟩))) nd
        refine ⟨_, rfl, by show 2 ≤ sizeLine; decide, fun u nu => ?_⟩
        have s2 := same_upd (o := .tup [V.str "exchanges", .int (x.fol : Int)]) nu
        have s12 := s1.trans s2
        refine ⟨_, rfl, _, rfl, _, rfl, a, rl, S, r, x.fol, rfl, st.same s12, ru.same s12, rp, fun p3 H3 s3 e3 => ?_⟩
        refine ⟨_, rfl, _, rfl, p3, d, _, i, ⟨x.num, 4, 0, x.top, 0, 0, x.mark⟩, rfl, e3, s3 _ _ (s2 _ _ upd_same), il, fw.h, fun p5 H5 s5 e5 => ⟨by show 2 ≤ sizeLine; decide, fun t5 nt => fin t5 _ (((s12.trans s3).trans s5).trans (same_upd nt)) ?_⟩⟩
        unfold exchP
        rw [if_neg hm, if_neg (by decide)]
        exact out_mk nt (s5 _ _ (s3 _ _ upd_same)) e5
end
end Sk


namespace Sk
open PySem PySem.Spec PyProof.Rows L2
section
variable {P : Program} {w : World} {K : PySem.W.Frag} {mg : Str → Option Value} {base : Heap}
theorem scPlace : FnScope ["state", "rule", "marks", "place", "cell", "doing"] ["state", "rule"] (defScope s_place_to_take) := ⟨rfl, rfl, rfl, by decide +kernel, rfl, by decide +kernel, by decide +kernel⟩
theorem cal_place_to_take (T : TxS K mg) : C8.Cal P w K mg base 1 "place_to_take" spPlace [] := by
  obtain ⟨f, fd, F, g⟩ := T.place_to_take.ex
  have C := T.c
  have T := T.toB
  refine cal_of F g (F.bindsN fun _ _ _ _ _ _ us hl => match us, hl with | [_, _], _ => rfl) (fok F scPlace (fun vs H Q E h => ?_) (fun cdv A outer s H vs Q E hr h => ?_))
  · obtain ⟨a, rl, S, r, rfl, _⟩ := h
    rfl
  · obtain ⟨a, rl, S, r, rfl, st, ru, fw, fin⟩ := h
    refine ⟨_, (Evl.pss_cut
    (ps_if (pt_cmpR op_eq (pe_ix ix_tup (pv 1) pe_int (fun _ _ => rfl)) pe_str (nomark _)) (pss_one (ps_ret pe_non)) pss_nil) (pss_cons
    (ps_setLc (i := 2) (own := [("doing", 5)]) (g := gName 5) (tt := tYes) rfl scPlace.nd rfl rfl (sw_true rfl rfl rfl (by decide +kernel)) (pi_tup (pe_ix ix_tup (pv 0) (pe_num (n := 5) rfl C.HANDS) (fun _ _ => rfl))) (blkOk_by (N := (["state", "rule", "marks", "place", "cell", "doing"])) (sc := defScope s_place_to_take) (by decide +kernel)) (fun _ _ _ _ _ => pg_name (i := 5) scPlace.nd rfl (Or.inl rfl)) (fun _ _ _ _ _ => pts_nil) (fun _ _ _ _ _ => (pe_ix (r := rIxT K) ix_tup (pv 5) (pe_num (n := 6) rfl C.MARK) (fun _ _ => rfl)))) (pss_cons
    (ps_for PassesOwn.never rfl (pi_enumT (by rfl) T.enumerate (pa_cons (pe_ix ix_tup (pv 0) (pe_num (n := 3) rfl C.FREE) (fun _ _ => rfl)) pa_nil)) (pg_tup (by rfl) (pgs_cons (pg_name (i := 3) scPlace.nd rfl (.inl rfl)) (pgs_cons (pg_name (i := 4) scPlace.nd rfl (.inl rfl)) pgs_nil))) (pss_one (ps_if (pt_cmpR op_notIn_seq (pv 4) (pv 2) (by rfl)) (pss_one (ps_ret (pv 3))) pss_nil))) (pss_one
    (ps_ret pe_non))))), ?_⟩
    obtain ⟨n, fr, v, hh, e0, en, ef, ev, as, eh, pr⟩ := id st
    obtain ⟨rest, eT⟩ := ru.word
    have ll := paired_len pr
    refine ⟨fun σ' H' => σ' = [some (.ref a), some (.ref rl), none, none, none, none] ∧ H' = H ∧ r ≠ .keeps, ?first, ?more⟩
    case first =>
      refine ⟨_, rfl, rl, _, 0, .str r.word, rfl, rfl, SqT.of eT, atI_nat (j := 0) rfl, rfl, _, rfl, ifKeeps (fun hk => ?_) (fun hk => ⟨rfl, rfl, hk⟩)⟩
      subst hk
      exact fin H (.refl H)
    case more =>
      rintro σ' H' ⟨rfl, rfl, hk⟩
      refine ⟨_, rfl, a, _, 5, _, rfl, rfl, SqT.of e0, rfl, hh, rfl, ⟨_, SqT.of eh⟩, fun D nD => ?_⟩
      refine lc_it (walk_tup (xs := as.map V.ref)) (fun i H1 => Same H' H1 ∧ H1 D = some (.lst (vN ((S.hands.map PHand.mark).take i)))) ⟨same_upd nD, upd_same⟩ (fun i H1 _ z => SqT.of (z.1 _ _ eh)) ?turn ?rest
      case turn =>
        rintro i x H1 H2 hi ⟨s1, eD⟩ ⟨rfl, ex⟩
        rw [List.length_map] at hi
        have ex2 : x = .ref as[i] := by
          rw [List.getElem?_map, List.getElem?_eq_getElem hi] at ex
          exact (Option.some.inj ex).symm
        subst ex2
        have hS : i < S.hands.length := by omega
        obtain ⟨t, et, ext⟩ := paired_get pr (List.getElem?_eq_getElem hS)
        rw [List.getElem?_eq_getElem hi] at et
        have et := Option.some.inj et
        subst et
        have ex1 := s1 _ _ ext
        refine ⟨rfl, tyes ⟨_, rfl, as[i], _, 6, _, rfl, rfl, SqT.of ex1, rfl, _, eD, ?_, ?_, ?_⟩⟩
        · rw [List.length_map, List.length_take, List.length_map, sizeLine_eq]
          have := fw.h
          omega
        · intro c o e
          rw [upd_ne (ne_of_none e nD)]
          exact s1 _ _ e
        · rw [upd_same, List.take_add_one, List.getElem?_map, List.getElem?_eq_getElem hS]
          unfold vN
          rw [List.map_append]
          rfl
      case rest =>
        rintro H1 ⟨s1, eD⟩
        have full : (S.hands.map PHand.mark).take (as.map V.ref).length = S.hands.map PHand.mark := List.take_of_length_le (by rw [List.length_map, List.length_map, ll]; exact Nat.le_refl _)
        rw [full] at eD
        have e1 := s1 _ _ e0
        refine ⟨_, rfl, a, _, 3, _, rfl, rfl, SqT.of e1, rfl, fr, _, rfl, SqT.of (s1 _ _ ef), for_it (walk_enumT (xs := vN S.free)) (fun i σ H2 => Same H1 H2 ∧ (∃ u v : Option V, σ = [some (.ref a), some (.ref rl), some (.ref D), u, v, none]) ∧ ∀ j, j < i → ∀ c, S.free[j]? = some c → (S.hands.map PHand.mark).contains c = true) ⟨.refl H1, ⟨none, none, rfl⟩, fun j hj => absurd hj (Nat.not_lt_zero _)⟩ (fun i σ H2 _ z => SqT.of (z.1 _ _ (s1 _ _ ef))) ?_ ?_⟩
        · rintro i x σ H2 H3 hi ⟨s2, ⟨u, v, rfl⟩, before⟩ ⟨t, x1, x2, rfl, nt, rfl, ex1, ex2⟩
          have ex1 : V.int (i : Nat) = x1 := Option.some.inj ex1
          subst ex1
          rw [List.length_map] at hi
          have ex3 : x2 = V.int (S.free[i] : Nat) := by
            have z : (vN S.free)[i]? = some x2 := ex2
            unfold vN at z
            rw [List.getElem?_map, List.getElem?_eq_getElem hi] at z
            exact (Option.some.inj z).symm
          subst ex3
          have s3 : Same H1 (upd H2 t (.tup [.int (i : Nat), .int (S.free[i] : Nat)])) := s2.trans (same_upd nt)
          refine ⟨t, _, rfl, SqT.of upd_same, rfl, _, _, rfl, _, _, rfl, rfl, ?_⟩
          refine ⟨_, rfl, _, rfl, D, _, rfl, .inl (SqL.of (s3 _ _ eD)), rfl, flat_nat _, _, rfl, ifNotIn (fun hc => ?_) (fun hc => ?_)⟩
          · have q := fin _ (s1.trans s3)
            rw [place_some hk hi hc before] at q
            exact ⟨_, rfl, q⟩
          · refine ⟨s3, ⟨_, _, rfl⟩, fun j hj c ec => ?_⟩
            by_cases q : j = i
            · subst q
              rw [List.getElem?_eq_getElem hi] at ec
              rw [← Option.some.inj ec]
              exact hc
            · exact before j (by omega) c ec
        · rintro σ H2 ⟨s2, ⟨u, v, rfl⟩, before⟩
          rw [List.length_map] at before
          have q := fin _ (s1.trans s2)
          rw [place_none before] at q
          exact q
end
end Sk


namespace Sk
open PySem PySem.Spec PyProof.Rows L2
section
variable {P : Program} {w : World} {K : PySem.W.Frag} {mg : Str → Option Value} {base : Heap}
theorem scTake : FnScope ["state", "rule", "hand", "value", "top", "count", "nexts", "free", "values", "hands", "place", "cell", "doing"] ["state", "rule", "hand", "value"] (defScope s_take) := ⟨rfl, rfl, rfl, by decide +kernel, rfl, by decide +kernel, by decide +kernel⟩
theorem cal_take (T : TxS K mg) : C8.Cal P w K mg base 2 "take" spTake [] := by
  obtain ⟨f, fd, F, g⟩ := T.take.ex
  have C := T.c
  have c_place_to_take : C8.Cal P w K mg base 1 "place_to_take" spPlace [] := cal_place_to_take T
  have c_replaced : C8.Cal P w K mg base 1 "replaced" spReplaced [] := cal_replaced T.replaced
  refine cal_of F g (F.bindsN fun _ _ _ _ _ _ us hl => match us, hl with | [_, _, _, _], _ => rfl) (fok F scTake (fun vs H Q E h => ?_) (fun cdv A outer s H vs Q E hr h => ?_))
  · obtain ⟨a, rl, S, r, i, x, v, rfl, _⟩ := h
    rfl
  · obtain ⟨a, rl, S, r, i, x, v, rfl, st, ru, hi, fw, ln, fb, fin⟩ := h
    refine ⟨_, (pss_cons
    (ps_asg (pv 0) (pg_tup (by rfl) (pgs_cons (pg_name (i := 4) scTake.nd rfl (.inl rfl)) (pgs_cons (pg_name (i := 5) scTake.nd rfl (.inl rfl)) (pgs_cons (pg_name (i := 6) scTake.nd rfl (.inl rfl)) (pgs_cons (pg_name (i := 7) scTake.nd rfl (.inl rfl)) (pgs_cons (pg_name (i := 8) scTake.nd rfl (.inl rfl)) (pgs_cons (pg_name (i := 9) scTake.nd rfl (.inl rfl)) pgs_nil)))))))) (pss_cons
    (ps_set (i := 10) scTake.nd rfl (.inl rfl) (C8.pe_c c_place_to_take hr (by decide) (by rfl) (pa_cons (pv 0) (pa_cons (pv 1) pa_nil)))) (Evl.pss_cut
    (ps_if (pt_cmpR op_isN (pv 10) pe_non (nomark _)) (pss_cons
    (ps_set (i := 6) scTake.nd rfl (.inl rfl) (pe_op op_catA (pv 6) (pe_tup (pa_cons pe_int pa_nil)))) (pss_cons
    (ps_set (i := 8) scTake.nd rfl (.inl rfl) (pe_op op_catA (pv 8) (pe_tup (pa_cons (pv 3) pa_nil)))) (pss_one
    (ps_set (i := 11) scTake.nd rfl (.inl rfl) (pe_callB call_len_seq (by rfl) T.len PySem.boot_len (pa_cons (pv 6) pa_nil)))))) (pss_cons
    (ps_set (i := 11) scTake.nd rfl (.inl rfl) (pe_ix ix_tup (pv 7) (pv 10) (fun _ _ => rfl))) (pss_cons
    (ps_set (i := 7) scTake.nd rfl (.inl rfl) (pe_op op_catA (pe_slice sl_tupA (pv 7) po_none (po_some (pv 10))) (pe_slice sl_tupA (pv 7) (po_some (pe_op op_add (pv 10) pe_int)) po_none))) (pss_one
    (ps_set (i := 8) scTake.nd rfl (.inl rfl) (C8.pe_c c_replaced hr (by decide) (by rfl) (pa_cons (pv 8) (pa_cons (pe_op op_sub (pv 11) pe_int) (pa_cons (pv 3) pa_nil))))))))) (pss_cons
    (ps_set (i := 12) scTake.nd rfl (.inl rfl) (C8.pe_c c_replaced hr (by decide) (by rfl) (pa_cons (pe_ix ix_tup (pv 9) (pv 2) (fun _ _ => rfl)) (pa_cons (pe_num (n := 2) rfl C.CELL) (pa_cons (pv 11) pa_nil))))) (pss_one
    (ps_ret (pe_tup (pa_cons (pe_tup (pa_cons pe_str (pa_cons (pv 11) pa_nil))) (pa_cons (pe_tup (pa_cons (pv 4) (pa_cons (pv 5) (pa_cons (pv 6) (pa_cons (pv 7) (pa_cons (pv 8) (pa_cons (C8.pe_c c_replaced hr (by decide) (by rfl) (pa_cons (pv 9) (pa_cons (pv 2) (pa_cons (pv 12) pa_nil)))) pa_nil))))))) pa_nil))))))))), ?_⟩
    obtain ⟨n, fr, vl, hh, as, t, e0, en, ef, ev, eh, pr, et, ex⟩ := st.hand hi
    have il := (List.getElem?_eq_some_iff.mp hi).1
    have ll := paired_len pr
    refine ⟨_, rfl, a, _, rfl, SqT.of e0, rfl, _, _, rfl, _, _, rfl, _, _, rfl, _, _, rfl, _, _, rfl, _, _, rfl, rfl, ?_⟩
    refine ⟨_, rfl, _, rfl, a, rl, S, r, rfl, st, ru, fw, fun H1 s1 => ?_⟩
    refine ⟨fun σ' H2 => ∃ (n2 f2 v2 : Addr) (ns fs : List Nat) (vs : List Int) (c : Nat) (pl : V), σ' = [some (.ref a), some (.ref rl), some (.int (i : Int)), some (.int v), some (.int (S.top : Int)), some (.int (S.count : Int)), some (.ref n2), some (.ref f2), some (.ref v2), some (.ref hh), some pl, some (.int (c : Int)), none] ∧
      Same H H2 ∧ NT H2 n2 ns ∧ NT H2 f2 fs ∧ H2 v2 = some (.tup (vs.map V.int)) ∧ takeP r S i x v = (.takes c, { S with nexts := ns, free := fs, vals := vs, hands := S.hands.set i { x with cell := c } }), ?first, ?more⟩
    case first =>
      refine ⟨_, rfl, rfl, _, rfl, ?_⟩
      cases hp : placeP r S with
      | none =>
        refine iteT ⟨_, rfl, by show 1 ≤ sizeLine; decide, fun p0 n0 => ?_⟩
        have s2 := s1.trans (same_upd (o := .tup [V.int 0]) n0)
        refine cat_tup (s2 _ _ en) upd_same (by rw [List.length_map, sizeLine_eq]; have := fw.n; show S.nexts.length + 1 ≤ _; omega) fun p1 H2 s3 e3 => ?_
        have s23 := s2.trans s3
        refine ⟨_, rfl, _, rfl, by show 1 ≤ sizeLine; decide, fun q0 m0 => ?_⟩
        have s4 := s23.trans (same_upd (o := .tup [V.int v]) m0)
        refine cat_tup (s4 _ _ ev) upd_same (by rw [List.length_map, sizeLine_eq]; have := fw.v; show S.vals.length + 1 ≤ _; omega) fun q1 H3 s5 e5 => ?_
        have s45 := s4.trans s5
        have e3' := s5 _ _ (same_upd (o := .tup [V.int v]) m0 _ _ e3)
        have ex3 : vN S.nexts ++ [V.int 0] = vN (S.nexts ++ [0]) := by unfold vN; rw [List.map_append]; rfl
        rw [ex3] at e3'
        refine ⟨_, rfl, p1, _, rfl, .inr (SqT.of e3'), ?_⟩
        refine ⟨p1, fr, q1, S.nexts ++ [0], S.free, S.vals ++ [v], S.nexts.length + 1, .non, ?_, s45, e3', s45 _ _ ef, ?_, ?_⟩
        · rw [List.length_map, List.length_append]
          rfl
        · rw [e5, List.map_append]
          rfl
        · unfold takeP
          rw [hp]
      | some j =>
        have jl : j < S.free.length := by
          have q : (S.free.findIdx? fun c => !((S.hands.map PHand.mark).contains c)) = some j := by
            cases r with
            | keeps => cases hp
            | counts m => exact hp
            | marks hs => exact hp
          exact (List.findIdx?_eq_some_iff_getElem.mp q).1
        have cm : S.free[j] ∈ S.free := List.getElem_mem jl
        obtain ⟨c1, c2⟩ := fb _ cm
        refine iteF ⟨_, rfl, _, rfl, fr, _, (j : Int), .int (S.free[j] : Nat), rfl, rfl, SqT.of (s1 _ _ ef), atI_nat (by unfold vN; rw [List.getElem?_map, List.getElem?_eq_getElem jl]; rfl), ?_⟩
        refine ⟨_, rfl, _, rfl, (j : Int), rfl, sl_take (s1 _ _ ef) (by rw [List.length_map]; omega) fun b1 H2 s2 e2 => ⟨_, rfl, _, rfl, _, _, rfl, rfl, ((j + 1 : Nat) : Int), rfl, ?_⟩⟩
        have s12 := s1.trans s2
        dsimp only [tNoPart]
        refine sl_drop (k := j + 1) (s12 _ _ ef) (by rw [List.length_map]; omega) fun b2 H3 s3 e3 => ?_
        refine cat_tup (s3 _ _ e2) e3 (by rw [sizeLine_eq, List.length_take, List.length_drop, List.length_map]; have := fw.f; omega) fun b3 H4 s4 e4 => ?_
        have s14 := (s12.trans s3).trans s4
        refine ⟨_, rfl, _, rfl, _, _, rfl, rfl, _, rfl, vl, S.vals.map V.int, S.free[j] - 1, .int v, ?_, s14 _ _ ev, by rw [List.length_map]; omega, by rw [List.length_map]; have := fw.v; omega, fun p5 H5 s5 e5 => ?_⟩
        · show [V.ref vl, V.int ((S.free[j] : Int) - 1), _] = _
          rw [pred_nat c1]
        refine ⟨n, b3, p5, S.nexts, S.free.eraseIdx j, S.vals.set (S.free[j] - 1) v, S.free[j], .int (j : Int), rfl, s14.trans s5, (s14.trans s5) _ _ en, ?_, ?_, ?_⟩
        · show H5 b3 = _
          rw [s5 _ _ e4, List.eraseIdx_eq_take_drop_succ]
          unfold vN
          rw [List.map_append, List.map_take, List.map_drop]
        · rw [e5, List.map_set]
        · unfold takeP
          rw [hp]
          have gd : S.free.getD j 0 = S.free[j] := by simp [List.getD, List.getElem?_eq_getElem jl]
          dsimp only
          rw [gd]
    case more =>
      rintro σ' H2 ⟨n2, f2, v2, ns, fs, vs, c, pl, rfl, s2, en2, ef2, ev2, et2⟩
      have eh2 := s2 _ _ eh
      refine ⟨_, rfl, _, rfl, hh, _, (i : Int), .ref t, rfl, rfl, SqT.of eh2, at_ref et, _, rfl, t, _, 2, .int (c : Int), rfl, s2 _ _ ex, by show 2 < 7; decide, by show 7 ≤ 200000; decide, fun d H3 s3 e3 => ?_⟩
      have s23 := s2.trans s3
      refine ⟨_, rfl, by show 2 ≤ sizeLine; decide, fun u nu => ?_⟩
      have s4 := same_upd (o := .tup [V.str "takes", .int (c : Int)]) nu
      have s24 := s23.trans s4
      refine ⟨_, rfl, _, rfl, _, rfl, _, rfl, _, rfl, _, rfl, _, rfl, _, rfl, hh, as.map V.ref, i, .ref d, rfl, s24 _ _ eh, by rw [List.length_map]; omega, by rw [List.length_map]; have := fw.h; omega, fun p5 H5 s5 e5 => ⟨by show 6 ≤ sizeLine; decide, fun b nb => ⟨by show 2 ≤ sizeLine; decide, fun t5 nt => fin t5 _ (((s24.trans s5).trans (same_upd nb)).trans (same_upd nt)) ?_⟩⟩⟩
      rw [et2]
      have s25 := s24.trans s5
      have sb := same_upd (o := .tup [.int (S.top : Int), .int (S.count : Int), .ref n2, .ref f2, .ref v2, .ref p5]) nb
      have s35 := (s3.trans s4).trans s5
      refine out_mk nt (sb _ _ (s5 _ _ upd_same)) ⟨n2, f2, v2, p5, upd_same, sb _ _ (s35 _ _ en2), sb _ _ (s35 _ _ ef2), sb _ _ (s35 _ _ ev2), as.set i d, ?_, ?_⟩
      · rw [List.map_set]
        exact sb _ _ e5
      · exact paired_set (R := fun t x => NT _ t (PHand.list x)) (sb _ _ (s5 _ _ (s4 _ _ e3))) (Paired.mono2 (fun t x z => sb _ _ (s25 _ _ z)) pr)
end
end Sk


namespace Sk
open PySem PySem.Spec PyProof.Rows L2
theorem flat_rep (p : Addr) (n : Nat) : (List.replicate n [V.ref p]).flatten = (List.replicate n p).map V.ref := by
  induction n with
  | zero => rfl
  | succ n ih => rw [List.replicate_succ, List.replicate_succ, List.flatten_cons, ih]; rfl
theorem paired_rep {α β : Type} {R : α → β → Prop} {a : α} {b : β} (r : R a b) : ∀ n : Nat, Paired R (List.replicate n a) (List.replicate n b)
  | 0 => .nil
  | n + 1 => .cons r (paired_rep r n)
section
variable {P : Program} {w : World} {K : PySem.W.Frag} {mg : Str → Option Value} {base : Heap}
theorem scFirstState : FnScope ["values", "many", "size"] ["values", "many"] (defScope s_first_state) := ⟨rfl, rfl, rfl, by decide +kernel, rfl, by decide +kernel, by decide +kernel⟩
theorem cal_first_state (T : TxS K mg) : C8.Cal P w K mg base 2 "first_state" (spFirstState K) [] := by
  obtain ⟨f, fd, F, g⟩ := T.first_state.ex
  have C := T.c
  have c_ahead_of : C8.Cal P w K mg base 1 "ahead_of" spAhead [] := cal_ahead T.ahead_of C
  refine cal_of F g (F.bindsN fun _ _ _ _ _ _ us hl => match us, hl with | [_, _], _ => rfl) (fok F scFirstState (fun vs H Q E h => ?_) (fun cdv A outer s H vs Q E hr h => ?_))
  · obtain ⟨a, xs, n, rfl, _⟩ := h
    rfl
  · obtain ⟨a, xs, n, rfl, hS, xl, n1, n2, fin⟩ := h
    refine ⟨_, (pss_cons
    (ps_set (i := 2) scFirstState.nd rfl (.inl rfl) (pe_callB call_len_seq (by rfl) T.len PySem.boot_len (pa_cons (pv 0) pa_nil))) (pss_one
    (ps_ret (pe_tup (pa_cons (pv 2) (pa_cons pe_int (pa_cons (pe_tupRg rfl (by rfl) T.tuple (prg_1 (by rfl) T.range (pv 2))) (pa_cons (pe_tup pa_nil) (pa_cons (pe_callTy call_tuple_of (by rfl) T.tuple (by decide +kernel) (pa_cons (pv 0) pa_nil)) (pa_cons (pe_op op_repA (pe_tup (pa_cons (C8.pe_c c_ahead_of hr (by decide) (by rfl) (pa_cons pe_int pa_nil)) pa_nil)) (pv 1)) pa_nil)))))))))), ?_⟩
    refine ⟨_, rfl, a, _, rfl, .inl hS, _, rfl, ?_⟩
    have el : rgV 0 (((xs.map V.int).length : Nat) : Int) = vN (List.range xs.length) := by
      unfold rgV vN
      rw [List.length_map, Int.sub_zero, Int.toNat_natCast]
      exact List.map_congr_left fun i _ => by rw [Int.zero_add]
    refine ⟨_, rfl, _, rfl, RgOk.of_le (by decide) (by rw [List.length_map]; omega) (by decide) (by omega), fun q1 m1 => ?_⟩
    rw [el]
    have s1 := same_upd (o := .tup (vN (List.range xs.length))) m1
    refine ⟨Nat.zero_le _, fun q2 m2 => ?_⟩
    have s2 := same_upd (o := .tup ([] : List V)) m2
    refine ⟨_, rfl, a, _, rfl, .inl ⟨(s1.trans s2).seq hS, fun q3 m3 => ?_⟩⟩
    have s3 := same_upd (o := .tup (xs.map V.int)) m3
    refine ⟨0, rfl, fun p4 H4 s4 e4 => ⟨by show 1 ≤ sizeLine; decide, fun p5 m5 => ?_⟩⟩
    have s5 := same_upd (o := .tup [V.ref p4]) m5
    have s15 := (((s1.trans s2).trans s3).trans s4).trans s5
    have k1 : NT _ q1 _ := s5 _ _ (s4 _ _ (s3 _ _ (s2 _ _ (upd_same (H := H) (a := q1) (o := .tup (vN (List.range xs.length)))))))
    have k2 := s5 _ _ (s4 _ _ (s3 _ _ (upd_same (H := upd H q1 (.tup (vN (List.range xs.length)))) (a := q2) (o := .tup ([] : List V)))))
    have k3 := s5 _ _ (s4 _ _ (upd_same (H := upd (upd H q1 (.tup (vN (List.range xs.length)))) q2 (.tup ([] : List V))) (a := q3) (o := .tup (xs.map V.int))))
    have k4 := s5 _ _ e4
    have k5 : (upd H4 p5 (.tup [V.ref p4])) p5 = _ := upd_same
    generalize upd H4 p5 (.tup [V.ref p4]) = H5 at *
    have len : ((xs.map V.int).length : Int) = (xs.length : Int) := by rw [List.length_map]
    refine ⟨_, rfl, p5, (n : Int), [.ref p4], rfl, rfl, SqT.of k5, by simp, by omega, by omega, (by show 1 ≤ 1000; decide), fun h1 => ?_, fun h2 p6 m6 => ?_⟩
    · refine ⟨by show 6 ≤ sizeLine; decide, fun p np => fin p _ (s15.trans (same_upd np)) ?_⟩
      have sp := same_upd (o := .tup [.int (((xs.map V.int).length : Nat) : Int), .int 0, .ref q1, .ref q2, .ref q3, .ref p5]) np
      refine ⟨q1, q2, q3, p5, ?_, sp _ _ k1, sp _ _ k2, sp _ _ k3, [p4], sp _ _ k5, ?_⟩
      · rw [upd_same, len]
        rfl
      · have n1 : n = 1 := by omega
        subst n1
        exact .cons (sp _ _ k4) .nil
    · have s6 := same_upd (o := .tup (List.replicate (n : Int).toNat [V.ref p4]).flatten) m6
      refine ⟨by show 6 ≤ sizeLine; decide, fun p np => fin p _ ((s15.trans s6).trans (same_upd np)) ?_⟩
      have sp := same_upd (o := .tup [.int (((xs.map V.int).length : Nat) : Int), .int 0, .ref q1, .ref q2, .ref q3, .ref p6]) np
      refine ⟨q1, q2, q3, p6, ?_, sp _ _ (s6 _ _ k1), sp _ _ (s6 _ _ k2), sp _ _ (s6 _ _ k3), List.replicate n p4, ?_, ?_⟩
      · rw [upd_same, len]
        rfl
      · rw [sp _ _ upd_same, Int.toNat_natCast, flat_rep]
      · exact paired_rep (R := fun t x => NT _ t (PHand.list x)) (sp _ _ (s6 _ _ k4)) n
end
end Sk


namespace Sk
open PySem PySem.Spec PyProof.Rows L2
/-- a sequence, a list or a tuple -/
def SqA (K : PySem.W.Frag) (H : Hp) (a : Addr) (xs : List V) : Prop := SqL K H a xs ∨ SqT K H a xs
/-- a hand's deeds .. -/
def DsAt (K : PySem.W.Frag) (H : Hp) (l : Addr) (ds : List Deed) : Prop := ∃ ts : List Addr, SqA K H l (ts.map V.ref) ∧ Rows K H ts (ds.map Deed.row)
/-- .. and all hands' -/
def PgAt (K : PySem.W.Frag) (H : Hp) (p : Addr) (ps : List (List Deed)) : Prop := ∃ ls : List Addr, SqA K H p (ls.map V.ref) ∧ Paired (DsAt K H) ls ps
theorem SqA.same {K : PySem.W.Frag} {H H' : Hp} {a : Addr} {xs : List V} (h : SqA K H a xs) (s : Same H H') : SqA K H' a xs := h.elim (fun z => .inl (s.seq z)) (fun z => .inr (same_tup s z))
theorem DsAt.same {K : PySem.W.Frag} {H H' : Hp} {l : Addr} {ds : List Deed} (h : DsAt K H l ds) (s : Same H H') : DsAt K H' l ds := by
  obtain ⟨ts, h1, h2⟩ := h
  exact ⟨ts, h1.same s, h2.mono fun t xs z => same_tup s z⟩
theorem PgAt.same {K : PySem.W.Frag} {H H' : Hp} {p : Addr} {ps : List (List Deed)} (h : PgAt K H p ps) (s : Same H H') : PgAt K H' p ps := by
  obtain ⟨ls, h1, h2⟩ := h
  exact ⟨ls, h1.same s, Paired.mono2 (fun _ _ z => z.same s) h2⟩
/-- what a step wants of the state -/
structure StepOk (S : PSt) (x : PHand) (ds : List Deed) : Prop where
  few : Few S
  num : x.num ≤ ds.length
  cell : ∀ v, ds[x.num]? = some (.push v) → x.cell ≤ S.nexts.length
  top : ds[x.num]? = some .pop → x.phase ≠ 0 → 1 ≤ x.top ∧ x.top ≤ S.nexts.length
  len : S.nexts.length = S.vals.length
  free : ∀ c ∈ S.free, 1 ≤ c ∧ c ≤ S.vals.length
def spStep (K : PySem.W.Frag) : Sp := fun vs H Q _ => ∃ (a p rl : Addr) (S : PSt) (r : Rule) (i : Nat) (x : PHand) (ps : List (List Deed)) (ds : List Deed), vs = [.ref a, .ref p, .ref rl, .int (i : Int)] ∧ StAt H a S ∧ PgAt K H p ps ∧ RuleAt H rl r ∧ r.pos ∧ S.hands[i]? = some x ∧ ps[i]? = some ds ∧ StepOk S x ds ∧
  ∀ t H', Same H H' → OutAt H' t (stepP r S i x ds) → Q (.ref t) H'
theorem stepP_push {r : Rule} {S : PSt} {i : Nat} {x : PHand} {ds : List Deed} {v : Int} (e : ds[x.num]? = some (.push v)) : stepP r S i x ds = if x.cell = 0 then takeP r S i x v else if x.phase = 0 then readP S i x true else if x.phase = 3 then exchP r S i x true else linkP S i x := by
  unfold stepP
  rw [e]
theorem stepP_pop {r : Rule} {S : PSt} {i : Nat} {x : PHand} {ds : List Deed} (e : ds[x.num]? = some .pop) : stepP r S i x ds = if x.phase = 0 then readP S i x false else if x.phase = 3 then exchP r S i x false else if x.phase = 4 then letP S i x else if x.phase = 1 ∧ mustMark r i = true then markP S i x else followP S i x := by
  unfold stepP
  rw [e]
section
variable {P : Program} {w : World} {K : PySem.W.Frag} {mg : Str → Option Value} {base : Heap}
theorem scStep : FnScope ["state", "programs", "rule", "hand", "doing", "deed", "pushes"] ["state", "programs", "rule", "hand"] (defScope s_step) := ⟨rfl, rfl, rfl, by decide +kernel, rfl, by decide +kernel, by decide +kernel⟩
theorem cal_step (T : TxS K mg) : C8.Cal P w K mg base 5 "step" (spStep K) [] := by
  obtain ⟨f, fd, F, g⟩ := T.step.ex
  obtain ⟨pop, TP⟩ := T.pop
  have C := T.c
  have c_take : C8.Cal P w K mg base 2 "take" spTake [] := cal_take T
  have c_read : C8.Cal P w K mg base 4 "read" spRead [] := cal_read T
  have c_exchange : C8.Cal P w K mg base 4 "exchange" spExchange [] := cal_exchange T
  have c_link : C8.Cal P w K mg base 3 "link" spLink [] := cal_link T
  have c_let_go : C8.Cal P w K mg base 4 "let_go" spLetGo [] := cal_let_go T
  have c_mark_or_look : C8.Cal P w K mg base 3 "mark_or_look" spMark [] := cal_mark_or_look T
  have c_follow : C8.Cal P w K mg base 3 "follow" spFollow [] := cal_follow T
  refine cal_of F g (F.bindsN fun _ _ _ _ _ _ us hl => match us, hl with | [_, _, _, _], _ => rfl) (fok F scStep (fun vs H Q E h => ?_) (fun cdv A outer s H vs Q E hr h => ?_))
  · obtain ⟨a, p, rl, S, r, i, x, ps, ds, rfl, _⟩ := h
    rfl
  · obtain ⟨a, p, rl, S, r, i, x, ps, ds, rfl, st, pg, ru, rp, hi, pi, ok, fin⟩ := h
    refine ⟨_, (pss_cons
    (ps_set (i := 4) scStep.nd rfl (.inl rfl) (pe_ix ix_tup (pe_ix ix_tup (pv 0) (pe_num (n := 5) rfl C.HANDS) (fun _ _ => rfl)) (pv 3) (fun _ _ => rfl))) (Evl.pss_cut
    (ps_if (pt_cmpR op_eq (pe_ix ix_tup (pv 4) (pe_num (n := 0) rfl C.NUMBER) (fun _ _ => rfl)) (pe_callB call_len_seq (by rfl) T.len PySem.boot_len (pa_cons (pe_ix ix_any (pv 1) (pv 3) (fun _ _ => rfl)) pa_nil)) (nomark _)) (pss_one (ps_ret (pe_tup (pa_cons (pe_tup (pa_cons pe_str pa_nil)) (pa_cons (pv 0) pa_nil))))) pss_nil) (pss_cons
    (ps_set (i := 5) scStep.nd rfl (.inl rfl) (pe_ix ix_any (pe_ix ix_any (pv 1) (pv 3) (fun _ _ => rfl)) (pe_ix ix_tup (pv 4) (pe_num (n := 0) rfl C.NUMBER) (fun _ _ => rfl)) (fun _ _ => rfl))) (pss_cons
    (ps_set (i := 6) scStep.nd rfl (.inl rfl) (pe_cmpR (op_neD hr.units) (pv 5) (pe_glob (v := .ref pop) (by rfl) TP.g rfl) (nomark _))) (Evl.pss_cut
    (ps_if (PW.pt (pw_and (pt_val (pv 6)) (pw_and1 (pt_cmpR op_eq (pe_ix ix_tup (pv 4) (pe_num (n := 2) rfl C.CELL) (fun _ _ => rfl)) pe_int (nomark _))))) (pss_one (ps_ret (C8.pe_c c_take hr (by decide) (by rfl) (pa_cons (pv 0) (pa_cons (pv 2) (pa_cons (pv 3) (pa_cons (pe_ix ix_tup (pv 5) pe_int (fun _ _ => rfl)) pa_nil))))))) pss_nil) (Evl.pss_cut
    (ps_if (pt_cmpR op_eq (pe_ix ix_tup (pv 4) (pe_num (n := 1) rfl C.PHASE) (fun _ _ => rfl)) (pe_num (n := 0) rfl C.TO_READ) (nomark _)) (pss_one (ps_ret (C8.pe_c c_read hr (by decide) (by rfl) (pa_cons (pv 0) (pa_cons (pv 3) (pa_cons (pv 6) pa_nil)))))) pss_nil) (Evl.pss_cut
    (ps_if (pt_cmpR op_eq (pe_ix ix_tup (pv 4) (pe_num (n := 1) rfl C.PHASE) (fun _ _ => rfl)) (pe_num (n := 3) rfl C.TO_EXCHANGE) (nomark _)) (pss_one (ps_ret (C8.pe_c c_exchange hr (by decide) (by rfl) (pa_cons (pv 0) (pa_cons (pv 2) (pa_cons (pv 3) (pa_cons (pv 6) pa_nil))))))) pss_nil) (Evl.pss_cut
    (ps_if (pt_val (pv 6)) (pss_one (ps_ret (C8.pe_c c_link hr (by decide) (by rfl) (pa_cons (pv 0) (pa_cons (pv 3) pa_nil))))) pss_nil) (Evl.pss_cut
    (ps_if (pt_cmpR op_eq (pe_ix ix_tup (pv 4) (pe_num (n := 1) rfl C.PHASE) (fun _ _ => rfl)) (pe_num (n := 4) rfl C.HAS_EXCHANGED) (nomark _)) (pss_one (ps_ret (C8.pe_c c_let_go hr (by decide) (by rfl) (pa_cons (pv 0) (pa_cons (pv 3) pa_nil))))) pss_nil) (Evl.pss_cut
    (ps_if (PW.pt (pw_and (pt_cmpR op_eq (pe_ix ix_tup (pv 4) (pe_num (n := 1) rfl C.PHASE) (fun _ _ => rfl)) (pe_num (n := 1) rfl C.HAS_READ) (nomark _)) (pw_and (pt_cmpR op_eq (pe_ix ix_tup (pv 2) pe_int (fun _ _ => rfl)) pe_str (nomark _)) (pw_and1 (pt_cmpR op_in_seq (pv 3) (pe_ix ix_tup (pv 2) pe_int (fun _ _ => rfl)) (by rfl)))))) (pss_one (ps_ret (C8.pe_c c_mark_or_look hr (by decide) (by rfl) (pa_cons (pv 0) (pa_cons (pv 3) pa_nil))))) pss_nil) (pss_one
    (ps_ret (C8.pe_c c_follow hr (by decide) (by rfl) (pa_cons (pv 0) (pa_cons (pv 3) pa_nil))))))))))))))), ?_⟩
    obtain ⟨n, fr, v, hh, as, t, e0, en, ef, ev, eh, pr, et, ex⟩ := st.hand hi
    obtain ⟨ls, p1, p2⟩ := id pg
    obtain ⟨l, el, ts, d1, d2⟩ := paired_get p2 pi
    have dl := d2.len
    rw [List.length_map] at dl
    refine ⟨_, rfl, a, _, 5, _, rfl, rfl, SqT.of e0, rfl, _, rfl, hh, _, (i : Int), .ref t, rfl, rfl, SqT.of eh, at_ref et, ?_⟩
    refine ⟨fun σ' H' => σ' = [some (.ref a), some (.ref p), some (.ref rl), some (.int (i : Int)), some (.ref t), none, none] ∧ H' = H ∧ x.num < ds.length, ?first, ?more⟩
    case first =>
      refine ⟨_, rfl, t, _, 0, _, rfl, rfl, SqT.of ex, rfl, _, rfl, _, rfl, p, _, (i : Int), .ref l, rfl, rfl, p1, at_ref el, l, _, rfl, d1, rfl, _, rfl, ?_⟩
      refine ifEqN ds.length (by rw [List.length_map, dl]) (fun h0 => ?_) (fun h0 => ⟨rfl, rfl, Nat.lt_of_le_of_ne ok.num h0⟩)
      refine ⟨by show 1 ≤ sizeLine; decide, fun u nu => ⟨_, rfl, by show 2 ≤ sizeLine; decide, fun t5 nt => fin t5 _ ((same_upd nu).trans (same_upd nt)) ?_⟩⟩
      have e : ds[x.num]? = none := List.getElem?_eq_none_iff.mpr (by omega)
      unfold stepP
      rw [e]
      exact out_mk nt upd_same (st.same (same_upd nu))
    case more =>
      rintro σ' H' ⟨rfl, rfl, hn⟩
      have ed : ds[x.num]? = some ds[x.num] := List.getElem?_eq_getElem hn
      have tl : x.num < ts.length := by omega
      have etd : ts[x.num]? = some ts[x.num] := List.getElem?_eq_getElem tl
      obtain ⟨row, erow, hrow⟩ := d2.at_ etd
      have erow2 : row = ds[x.num].row := by
        rw [List.getElem?_map, ed] at erow
        exact (Option.some.inj erow).symm
      subst erow2
      refine ⟨_, rfl, _, rfl, p, _, (i : Int), .ref l, rfl, rfl, p1, at_ref el, _, rfl, t, _, 0, _, rfl, rfl, SqT.of ex, rfl, l, _, (x.num : Int), .ref ts[x.num], rfl, rfl, d1, at_ref etd, ?_⟩
      refine ⟨_, rfl, _, _, row_dp hrow, .tup (TP.at_ _) (.cons (.str _) .nil), deed_lay _, pop_lay, ?_⟩
      rw [eqv_pop]
      generalize hd : ds[x.num] = d at ed hrow ⊢
      clear hd
      generalize ts[x.num] = td at hrow etd ⊢
      cases d with
      | push v =>
        rw [stepP_push ed] at fin
        refine ⟨fun σ' H1 => σ' = [some (.ref a), some (.ref p), some (.ref rl), some (.int (i : Int)), some (.ref t), some (.ref td), some (.bl true)] ∧ H1 = H' ∧ x.cell ≠ 0, ?c1, ?m1⟩
        case c1 =>
          refine ⟨_, rfl, _, rfl, iteT ⟨_, rfl, t, _, 2, _, rfl, rfl, SqT.of ex, rfl, rfl, _, rfl, ifEqN 0 rfl (fun h0 => ?_) (fun h0 => ⟨rfl, rfl, h0⟩)⟩⟩
          rw [if_pos h0] at fin
          exact ⟨_, rfl, _, rfl, _, rfl, _, rfl, td, _, 1, .int v, rfl, rfl, hrow, rfl, a, rl, S, r, i, x, v, rfl, st, ru, hi, ok.few, ok.len, ok.free, fin⟩
        case m1 =>
          rintro σ' H1 ⟨rfl, rfl, hc⟩
          rw [if_neg hc] at fin
          refine ⟨fun σ' H2 => σ' = [some (.ref a), some (.ref p), some (.ref rl), some (.int (i : Int)), some (.ref t), some (.ref td), some (.bl true)] ∧ H2 = H1 ∧ x.phase ≠ 0, ?c1, ?m1⟩
          case c1 =>
            refine ⟨_, rfl, t, _, 1, _, rfl, rfl, SqT.of ex, rfl, rfl, _, rfl, ifEqN 0 rfl (fun h0 => ?_) (fun h0 => ⟨rfl, rfl, h0⟩)⟩
            rw [if_pos h0] at fin
            exact ⟨_, rfl, _, rfl, _, rfl, a, S, i, x, true, rfl, st, hi, ok.few, fin⟩
          case m1 =>
            rintro σ' H2 ⟨rfl, rfl, h0⟩
            rw [if_neg h0] at fin
            refine ⟨fun σ' H1 => σ' = [some (.ref a), some (.ref p), some (.ref rl), some (.int (i : Int)), some (.ref t), some (.ref td), some (.bl true)] ∧ H1 = H2 ∧ x.phase ≠ 3, ?c1, ?m1⟩
            case c1 =>
              refine ⟨_, rfl, t, _, 1, _, rfl, rfl, SqT.of ex, rfl, rfl, _, rfl, ifEqN 3 rfl (fun h3 => ?_) (fun h3 => ⟨rfl, rfl, h3⟩)⟩
              rw [if_pos h3] at fin
              exact ⟨_, rfl, _, rfl, _, rfl, _, rfl, a, rl, S, r, i, x, true, rfl, st, ru, rp, hi, ok.few, fin⟩
            case m1 =>
              rintro σ' H1 ⟨rfl, rfl, h3⟩
              rw [if_neg h3] at fin
              refine ⟨fun _ _ => False, ?_, fun _ _ z => z.elim⟩
              refine ⟨_, rfl, _, rfl, iteT ⟨_, rfl, _, rfl, a, S, i, x, rfl, st, hi, ok.few, Nat.pos_of_ne_zero hc, ok.cell v ed, fin⟩⟩
      | pop =>
        rw [stepP_pop ed] at fin
        refine ⟨fun σ' H1 => σ' = [some (.ref a), some (.ref p), some (.ref rl), some (.int (i : Int)), some (.ref t), some (.ref td), some (.bl false)] ∧ H1 = H' ∧ True, ⟨_, rfl, _, rfl, iteF ⟨rfl, rfl, trivial⟩⟩, ?n1⟩
        case n1 =>
          rintro σ' H1 ⟨rfl, rfl, _⟩
          refine ⟨fun σ' H2 => σ' = [some (.ref a), some (.ref p), some (.ref rl), some (.int (i : Int)), some (.ref t), some (.ref td), some (.bl false)] ∧ H2 = H1 ∧ x.phase ≠ 0, ?d1, ?n1⟩
          case d1 =>
            refine ⟨_, rfl, t, _, 1, _, rfl, rfl, SqT.of ex, rfl, rfl, _, rfl, ifEqN 0 rfl (fun h0 => ?_) (fun h0 => ⟨rfl, rfl, h0⟩)⟩
            rw [if_pos h0] at fin
            exact ⟨_, rfl, _, rfl, _, rfl, a, S, i, x, false, rfl, st, hi, ok.few, fin⟩
          case n1 =>
            rintro σ' H2 ⟨rfl, rfl, h0⟩
            rw [if_neg h0] at fin
            obtain ⟨t1, t2⟩ := ok.top ed h0
            refine ⟨fun σ' H1 => σ' = [some (.ref a), some (.ref p), some (.ref rl), some (.int (i : Int)), some (.ref t), some (.ref td), some (.bl false)] ∧ H1 = H2 ∧ x.phase ≠ 3, ?d1, ?n1⟩
            case d1 =>
              refine ⟨_, rfl, t, _, 1, _, rfl, rfl, SqT.of ex, rfl, rfl, _, rfl, ifEqN 3 rfl (fun h3 => ?_) (fun h3 => ⟨rfl, rfl, h3⟩)⟩
              rw [if_pos h3] at fin
              exact ⟨_, rfl, _, rfl, _, rfl, _, rfl, a, rl, S, r, i, x, false, rfl, st, ru, rp, hi, ok.few, fin⟩
            case n1 =>
              rintro σ' H1 ⟨rfl, rfl, h3⟩
              rw [if_neg h3] at fin
              refine ⟨fun σ' H2 => σ' = [some (.ref a), some (.ref p), some (.ref rl), some (.int (i : Int)), some (.ref t), some (.ref td), some (.bl false)] ∧ H2 = H1 ∧ True, ⟨_, rfl, _, rfl, iteF ⟨rfl, rfl, trivial⟩⟩, ?n1⟩
              case n1 =>
                rintro σ' H2 ⟨rfl, rfl, _⟩
                refine ⟨fun σ' H1 => σ' = [some (.ref a), some (.ref p), some (.ref rl), some (.int (i : Int)), some (.ref t), some (.ref td), some (.bl false)] ∧ H1 = H2 ∧ x.phase ≠ 4, ?d1, ?n1⟩
                case d1 =>
                  refine ⟨_, rfl, t, _, 1, _, rfl, rfl, SqT.of ex, rfl, rfl, _, rfl, ifEqN 4 rfl (fun h4 => ?_) (fun h4 => ⟨rfl, rfl, h4⟩)⟩
                  rw [if_pos h4] at fin
                  exact ⟨_, rfl, _, rfl, a, S, i, x, rfl, st, hi, ok.few, t1, by rw [← ok.len]; exact t2, fin⟩
                case n1 =>
                  rintro σ' H1 ⟨rfl, rfl, h4⟩
                  rw [if_neg h4] at fin
                  refine ⟨fun σ' H2 => σ' = [some (.ref a), some (.ref p), some (.ref rl), some (.int (i : Int)), some (.ref t), some (.ref td), some (.bl false)] ∧ H2 = H1 ∧ ¬ (x.phase = 1 ∧ mustMark r i = true), ?d1, ?n1⟩
                  case d1 =>
                    obtain ⟨rest, eT⟩ := ru.word
                    refine ⟨_, rfl, t, _, 1, _, rfl, rfl, SqT.of ex, rfl, rfl, _, rfl, ifEqN 1 rfl (fun h1 => ?_) (fun h1 => iteF ⟨rfl, rfl, fun z => h1 z.1⟩)⟩
                    refine ⟨_, rfl, rl, _, 0, .str r.word, rfl, rfl, SqT.of eT, atI_nat (j := 0) rfl, rfl, _, rfl, ifMarks (fun hs hm => ?_) (fun hm => iteF ⟨rfl, rfl, fun z => ?_⟩)⟩
                    · subst hm
                      obtain ⟨w9, r1, r2⟩ := id ru
                      refine ⟨_, rfl, _, rfl, rl, _, 1, .ref w9, rfl, rfl, SqT.of r1, atI_nat (j := 1) rfl, w9, _, rfl, .inr (SqT.of r2), rfl, flat_nat _, _, rfl, ifIn (fun hc => ?_) (fun hc => ⟨rfl, rfl, fun z => ?_⟩)⟩
                      · rw [if_pos ⟨h1, hc⟩] at fin
                        exact ⟨_, rfl, _, rfl, a, S, i, x, rfl, st, hi, ok.few, fin⟩
                      · have z2 : hs.contains i = true := z.2
                        rw [hc] at z2
                        cases z2
                    · cases r with
                      | marks hs => exact hm hs rfl
                      | counts m => cases z.2
                      | keeps => cases z.2
                  case n1 =>
                    rintro σ' H2 ⟨rfl, rfl, h1⟩
                    rw [if_neg h1] at fin
                    exact ⟨_, rfl, _, rfl, a, S, i, x, rfl, st, hi, ok.few, t1, t2, fin⟩
end
end Sk


namespace Sk
open PySem PySem.Spec PyProof.Rows L2
def staleP (st : Stp) (S : PSt) (x : PHand) : Bool := match st with
  | .exchanges c => linkAt S.nexts x.top != c
  | _ => false
def Stp.say : Stp → List V
  | .ends a => [a]
  | _ => []
/-- all that holds of a machine at work -/
structure Okm (r : Rule) (n : Nat) (s : Mach) : Prop where
  base : Base s
  bnd : Bnd n s
  le : AllLe s
  fit : Fitm r s
  few : s.hands.length ≤ 3
  ans : ∀ h ∈ s.hands, ∀ a ∈ h.said, IsAns a
section
variable {r : Rule} {s : Mach} {i n : Nat} {h : Hand}
/-- what a step leaves besides the state -/
structure GoOut (r : Rule) (s : Mach) (i : Nat) (h : Hand) (st : Stp) (s' : Mach) : Prop where
  ends : s'.ends = s.ends ++ (if st.dec = true then [(i, h.at_)] else [])
  hand : ∃ h', s'.hands = s.hands.set i h' ∧ h'.deeds = h.deeds ∧ h'.said = h.said ++ st.say ∧ s'.stale = (s.stale || staleP st s'.ps h'.ph) ∧ (st.isEx = true → 1 ≤ h'.ph.top ∧ h'.ph.top ≤ s'.links.length)
  ok : st.Ok
theorem set_self (hi : s.hands[i]? = some h) : s.hands.set i h = s.hands := by
  obtain ⟨l, e⟩ := List.getElem?_eq_some_iff.mp hi
  rw [← e, List.set_getElem_self]
theorem Go.out {st : Stp} {s' : Mach} (O : Okm r n s) (hi : s.hands[i]? = some h) (G : Go r s i h st s') : GoOut r s i h st s' := by
  have nil : ∀ l : List (Nat × Nat), l = l ++ [] := fun l => (List.append_nil l).symm
  have nilV : ∀ l : List V, l = l ++ [] := fun l => (List.append_nil l).symm
  have or0 : s.stale = (s.stale || false) := (Bool.or_false _).symm
  have no : ∀ {A : Prop}, false = true → A := fun z => by cases z
  cases G with
  | rests e => exact ⟨nil _, ⟨h, (set_self hi).symm, rfl, nilV _, or0, no⟩, trivial⟩
  | takesNew v e hc hp => exact ⟨nil _, ⟨_, rfl, rfl, nilV _, or0, no⟩, trivial⟩
  | takesFree v c e hc hp => exact ⟨nil _, ⟨_, rfl, rfl, nilV _, or0, no⟩, trivial⟩
  | readsPush v e hc hs => exact ⟨nil _, ⟨_, rfl, rfl, nilV _, or0, no⟩, trivial⟩
  | links v t k e hc hs hf => exact ⟨nil _, ⟨_, rfl, rfl, nilV _, or0, no⟩, trivial⟩
  | pushes v f e hc hs hf => exact ⟨rfl, ⟨_, rfl, rfl, rfl, or0, no⟩, .inl rfl⟩
  | missPush v t k f e hc hs hf hn => exact ⟨nil _, ⟨_, rfl, rfl, nilV _, or0, no⟩, trivial⟩
  | meets e hs ht => exact ⟨rfl, ⟨_, rfl, rfl, rfl, or0, no⟩, .inr (.inl rfl)⟩
  | readsPop e hs ht => exact ⟨nil _, ⟨_, rfl, rfl, nilV _, or0, no⟩, trivial⟩
  | lets t k e hs hc => exact ⟨nil _, ⟨_, rfl, rfl, rfl, or0, no⟩, .inr (.inr ⟨_, rfl⟩)⟩
  | marks t k e hs hc hm hl hk => exact ⟨nil _, ⟨_, rfl, rfl, nilV _, or0, no⟩, trivial⟩
  | looks t k e hs hc hm hl hk ht => exact ⟨nil _, ⟨_, rfl, rfl, nilV _, or0, no⟩, trivial⟩
  | looksNot t k e hs hc hm hl hk ht => exact ⟨nil _, ⟨_, rfl, rfl, nilV _, or0, no⟩, trivial⟩
  | follows t k e hs hc hm hf => exact ⟨nil _, ⟨_, rfl, rfl, nilV _, or0, no⟩, trivial⟩
  | pops f e hs hc hm hf =>
    have t0 := O.base.seen i h hi e _ _ hs
    have ex2 : ({ h with cell := s.top } : Hand).ph = ⟨h.at_, 4, 0, s.top, 0, 0, h.mark⟩ := by unfold Hand.ph; dsimp only; rw [e]; dsimp only; rw [hs]; dsimp only; rw [if_pos t0]
    refine ⟨rfl, ⟨{ h with cell := s.top }, rfl, rfl, nilV _, ?_, fun _ => ?_⟩, trivial⟩
    · rw [ex2]
      rfl
    · rw [ex2]
      have := O.bnd.top
      have l := O.bnd.len
      show 1 ≤ s.top ∧ s.top ≤ s.links.length
      omega
  | missPop t k f e hs hc hm hf hn => exact ⟨nil _, ⟨_, rfl, rfl, nilV _, or0, no⟩, trivial⟩
theorem Okm.turn (O : Okm r n s) : Okm r (n + 1) (turn r s i).2 := by
  refine ⟨O.base.turn, O.bnd.turn, O.le.turn, O.fit.turn O.base, by rw [turn_many]; exact O.few, ?_⟩
  unfold Sk.turn
  split
  · exact O.ans
  · rename_i h hi
    obtain ⟨h', e1, e2, e3, _⟩ := (Go.out O hi (go_kind r s i h)).hand
    have ok := (Go.out O hi (go_kind r s i h)).ok
    intro g hg a ha
    rw [e1] at hg
    rcases mem_set hg with z | z
    · exact O.ans g z a ha
    · rw [z, e3] at ha
      rcases List.mem_append.mp ha with q | q
      · exact O.ans h (List.mem_of_getElem? hi) a q
      · generalize (go r s i h).1 = st at ok q
        cases st with
        | ends b =>
          rw [List.mem_singleton.mp q]
          exact ok
        | _ => cases q
theorem Okm.up {m : Nat} (O : Okm r n s) (h : n ≤ m) : Okm r m s := ⟨O.base, O.bnd.up h, O.le, O.fit, O.few, O.ans⟩
theorem Okm.play : ∀ {w : List Nat} {s : Mach} {n : Nat}, Okm r n s → Okm r (n + w.length) (play r s w).2
  | [], s, n, O => O
  | i :: w, s, n, O => by
    have := Okm.play (w := w) (O.turn (i := i))
    rw [List.length_cons]
    show Okm r (n + (w.length + 1)) (Sk.play r (Sk.turn r s i).2 w).2
    rw [show n + (w.length + 1) = n + 1 + w.length by omega]
    exact this
theorem Okm.begun (xs : List Int) (ps : List (List Deed)) (h : ps.length ≤ 3) : Okm r xs.length (Mach.begun xs ps) := by
  refine ⟨Base.begun xs ps, Bnd.begun xs ps, AllLe.begun xs ps, Fitm.begun xs ps, by show (ps.map Hand.new).length ≤ 3; rw [List.length_map]; exact h, fun g hg a ha => ?_⟩
  obtain ⟨ds, _, e⟩ := List.mem_map.mp (show g ∈ ps.map Hand.new from hg)
  rw [← e] at ha
  cases ha
end
end Sk


/-! The package's machine on the heap. -/
namespace Sk
open PySem PySem.Spec PyProof.Rows L2
/-! ### what may be written -/
def HO.mut : HO → Bool
  | .lst _ => true
  | .ins _ _ _ => true
  | .dK _ => true
  | .dT _ => true
  | _ => false
/-- all that is never written stays -/
def Kp (H H' : Hp) : Prop := ∀ a o, H a = some o → HO.mut o = false → H' a = some o
theorem Kp.refl {H : Hp} : Kp H H := fun _ _ e _ => e
theorem Kp.trans {H H1 H2 : Hp} (x : Kp H H1) (y : Kp H1 H2) : Kp H H2 := fun a o e m => y a o (x a o e m) m
theorem Kp.of {H H' : Hp} (s : Same H H') : Kp H H' := fun _ _ e _ => s _ _ e
theorem Kp.upd {H : Hp} {p : Addr} {o u : HO} (e : H p = some o) (m : HO.mut o = true) : Kp H (L2.upd H p u) := fun a v z n => by
  rw [upd_ne (fun q => by
    rw [q, e] at z
    rw [Option.some.inj z, n] at m
    cases m)]
  exact z
theorem Kp.tups {H H' : Hp} (k : Kp H H') : Tups H H' := fun a xs e => k a _ e rfl
theorem Kp.sqt {K : PySem.W.Frag} {H H' : Hp} {a : Addr} {xs : List V} (k : Kp H H') (h : SqT K H a xs) : SqT K H' a xs := by
  rcases h with (h | ⟨o, h⟩) | h
  · exact .inl (.inl (k _ _ h rfl))
  · exact .inl (.inr ⟨o, k _ _ h rfl⟩)
  · exact .inr h
theorem RuleAt.tups {H H' : Hp} {t : Addr} {r : Rule} (k : Tups H H') (h : RuleAt H t r) : RuleAt H' t r := by
  cases r with
  | counts m => exact k _ _ h
  | keeps => exact k _ _ h
  | marks hs =>
    obtain ⟨u, h1, h2⟩ := h
    exact ⟨u, k _ _ h1, k _ _ h2⟩
/-! ### programs in tuples -/
def DsT (K : PySem.W.Frag) (H : Hp) (l : Addr) (ds : List Deed) : Prop := ∃ ts : List Addr, H l = some (.tup (ts.map V.ref)) ∧ Rows K H ts (ds.map Deed.row)
def PgT (K : PySem.W.Frag) (H : Hp) (p : Addr) (ps : List (List Deed)) : Prop := ∃ ls : List Addr, H p = some (.tup (ls.map V.ref)) ∧ Paired (DsT K H) ls ps
theorem Rows.kp {K : PySem.W.Frag} {H H' : Hp} {ts : List Addr} {rs : List Row} (k : Kp H H') (h : Rows K H ts rs) : Rows K H' ts rs := h.mono fun _ _ z => k.sqt z
theorem DsT.kp {K : PySem.W.Frag} {H H' : Hp} {l : Addr} {ds : List Deed} (k : Kp H H') (h : DsT K H l ds) : DsT K H' l ds := by
  obtain ⟨ts, h1, h2⟩ := h
  exact ⟨ts, k _ _ h1 rfl, h2.kp k⟩
theorem PgT.kp {K : PySem.W.Frag} {H H' : Hp} {p : Addr} {ps : List (List Deed)} (k : Kp H H') (h : PgT K H p ps) : PgT K H' p ps := by
  obtain ⟨ls, h1, h2⟩ := h
  exact ⟨ls, k _ _ h1 rfl, Paired.mono2 (fun _ _ z => z.kp k) h2⟩
/-! ### its attributes -/
def mFs (P R S An De : Addr) (b : Bool) : List (Str × V) := [("programs", .ref P), ("rule", .ref R), ("state", .ref S), ("answered", .ref An), ("decided", .ref De), ("had_stale", .bl b)]
section
variable {P R S An De : Addr} {b : Bool}
theorem lkF {k k' : Str} {v : V} {l : List (Str × V)} (h : (k == k') = false) : ((k', v) :: l).lookup k = l.lookup k := by simp [List.lookup, h]
theorem lkT {k : Str} {v : V} {l : List (Str × V)} : ((k, v) :: l).lookup k = some v := by simp [List.lookup]
theorem f_programs : (mFs P R S An De b).lookup ("programs" : Str) = some (V.ref P) := lkT
theorem f_rule : (mFs P R S An De b).lookup ("rule" : Str) = some (V.ref R) := (lkF (by decide +kernel)).trans lkT
theorem f_state : (mFs P R S An De b).lookup ("state" : Str) = some (V.ref S) := (lkF (by decide +kernel)).trans ((lkF (by decide +kernel)).trans lkT)
theorem f_answered : (mFs P R S An De b).lookup ("answered" : Str) = some (V.ref An) := (lkF (by decide +kernel)).trans ((lkF (by decide +kernel)).trans ((lkF (by decide +kernel)).trans lkT))
theorem f_decided : (mFs P R S An De b).lookup ("decided" : Str) = some (V.ref De) := (lkF (by decide +kernel)).trans ((lkF (by decide +kernel)).trans ((lkF (by decide +kernel)).trans ((lkF (by decide +kernel)).trans lkT)))
theorem f_had_stale : (mFs P R S An De b).lookup ("had_stale" : Str) = some (V.bl b) := (lkF (by decide +kernel)).trans ((lkF (by decide +kernel)).trans ((lkF (by decide +kernel)).trans ((lkF (by decide +kernel)).trans ((lkF (by decide +kernel)).trans lkT))))
theorem f_none {k : Str} (h : (["programs", "rule", "state", "answered", "decided", "had_stale"] : List Str).all (fun x => !(k == x)) = true) : (mFs P R S An De b).lookup k = none := by
  simp only [List.all_cons, List.all_nil, Bool.and_true, Bool.and_eq_true, Bool.not_eq_true'] at h
  obtain ⟨h1, h2, h3, h4, h5, h6⟩ := h
  exact (lkF h1).trans ((lkF h2).trans ((lkF h3).trans ((lkF h4).trans ((lkF h5).trans ((lkF h6).trans rfl)))))
theorem putN {k k' : Str} {v w : V} {l : List (Str × V)} (h : ¬ k' = k) : putF k v ((k', w) :: l) = (k', w) :: putF k v l := if_neg h
theorem putY {k : Str} {v w : V} {l : List (Str × V)} : putF k v ((k, w) :: l) = (k, v) :: l := if_pos rfl
theorem put_state (S2 : Addr) : putF "state" (.ref S2) (mFs P R S An De b) = mFs P R S2 An De b := by
  unfold mFs
  rw [putN (by decide +kernel), putN (by decide +kernel), putY]
theorem put_stale (c : Bool) : putF "had_stale" (.bl c) (mFs P R S An De b) = mFs P R S An De c := by
  unfold mFs
  rw [putN (by decide +kernel), putN (by decide +kernel), putN (by decide +kernel), putN (by decide +kernel), putN (by decide +kernel), putY]
end
/-! ### it as a whole -/
def PairAt (H : Hp) (t : Addr) (p : Nat × Nat) : Prop := H t = some (.tup [.int (p.1 : Int), .int (p.2 : Int)])
structure ML where
  m : Addr
  dx : Addr
  P : Addr
  R : Addr
  An : Addr
  De : Addr
  qa : List Addr
def ML.own (L : ML) : List Addr := L.m :: L.De :: L.qa
structure MacP (K : PySem.W.Frag) (H : Hp) (C : Addr) (r : Rule) (L : ML) (S : PSt) (ps : List (List Deed)) (sd : List (List V)) (es : List (Nat × Nat)) (b : Bool) : Prop where
  ins : ∃ a, H L.m = some (.ins C L.dx (mFs L.P L.R a L.An L.De b)) ∧ StAt H a S
  pg : PgT K H L.P ps
  rule : RuleAt H L.R r
  ans : H L.An = some (.lst (L.qa.map V.ref))
  said : Paired (fun q l => H q = some (.lst l)) L.qa sd
  dec : ∃ ts : List Addr, H L.De = some (.lst (ts.map V.ref)) ∧ Paired (PairAt H) ts es
  nd : (L.An :: L.own).Nodup
/-- all but the machine's own stays -/
def Kept2 (L : ML) (H H' : Hp) : Prop := ∀ a o, a ∉ L.own → H a = some o → H' a = some o
theorem Kept2.refl {L : ML} {H : Hp} : Kept2 L H H := fun _ _ _ e => e
theorem Kept2.trans {L : ML} {H H1 H2 : Hp} (x : Kept2 L H H1) (y : Kept2 L H1 H2) : Kept2 L H H2 := fun a o n e => y a o n (x a o n e)
theorem Kept2.of {L : ML} {H H' : Hp} (s : Same H H') : Kept2 L H H' := fun a o _ e => s a o e
theorem Kept2.upd {L : ML} {H : Hp} {p : Addr} {o : HO} (hp : p ∈ L.own) : Kept2 L H (L2.upd H p o) := fun a u n e => by
  have ne : a ≠ p := fun q => n (by rw [q]; exact hp)
  rw [upd_ne ne]
  exact e
theorem paired_upd {H : Hp} {q : Addr} {o : HO} : ∀ {qs : List Addr} {ls : List (List V)}, q ∉ qs → Paired (fun y l => H y = some (.lst l)) qs ls → Paired (fun y l => L2.upd H q o y = some (.lst l)) qs ls
  | [], [], _, .nil => .nil
  | x :: qs, l0 :: ls, n, .cons r rs => by
    have n1 : x ≠ q := fun z => n (by rw [z]; exact List.mem_cons_self)
    exact .cons (by rw [upd_ne n1]; exact r) (paired_upd (fun z => n (List.mem_cons_of_mem _ z)) rs)
theorem paired_say {H : Hp} {q : Addr} {m : List V} : ∀ {qs : List Addr} {ls : List (List V)} {j : Nat}, qs.Nodup → qs[j]? = some q → Paired (fun y l => H y = some (.lst l)) qs ls → Paired (fun y l => L2.upd H q (.lst m) y = some (.lst l)) qs (ls.set j m)
  | _, _, _, _, h, .nil => by simp at h
  | x :: qs, l0 :: ls, 0, nd, h, .cons r rs => by
    have e0 := Option.some.inj (show some x = some q from h)
    subst e0
    exact .cons upd_same (paired_upd (List.nodup_cons.mp nd).1 rs)
  | x :: qs, l0 :: ls, j + 1, nd, h, .cons r rs => by
    obtain ⟨d1, d2⟩ := List.nodup_cons.mp nd
    have h : qs[j]? = some q := by simpa using h
    have nx : x ≠ q := fun z => d1 (by rw [z]; exact List.mem_of_getElem? h)
    exact .cons (by rw [upd_ne nx]; exact r) (paired_say d2 h rs)
section
variable {K : PySem.W.Frag} {H : Hp} {C : Addr} {r : Rule} {L : ML} {S : PSt} {ps : List (List Deed)} {sd : List (List V)} {es : List (Nat × Nat)} {b : Bool}
theorem paired_mem {α β : Type} {R : α → β → Prop} {a : α} : ∀ {as : List α} {bs : List β}, Paired R as bs → a ∈ as → ∃ b, R a b
  | _, _, .nil, h => by cases h
  | _, _, .cons (b := b) r rs, h => by
    rcases List.mem_cons.mp h with q | q
    · exact ⟨b, q ▸ r⟩
    · exact paired_mem rs q
/-- its own things may be written -/
theorem MacP.own (M : MacP K H C r L S ps sd es b) {x : Addr} (hx : x ∈ L.own) : ∃ o, H x = some o ∧ HO.mut o = true := by
  obtain ⟨a, e1, _⟩ := M.ins
  obtain ⟨ts, e2, _⟩ := M.dec
  rcases List.mem_cons.mp hx with q | hx
  · exact ⟨_, q ▸ e1, rfl⟩
  · rcases List.mem_cons.mp hx with q | hx
    · exact ⟨_, q ▸ e2, rfl⟩
    · obtain ⟨l, e3⟩ := paired_mem M.said hx
      exact ⟨_, e3, rfl⟩
theorem MacP.kp {H' : Hp} (M : MacP K H C r L S ps sd es b) (k : Kept2 L H H') : Kp H H' := fun a o e m => k a o (fun hx => by
  obtain ⟨u, e2, m2⟩ := M.own hx
  rw [e] at e2
  rw [Option.some.inj e2, m2] at m
  cases m) e
/-- what does not touch it -/
theorem MacP.frame {H' : Hp} (M : MacP K H C r L S ps sd es b) (k : Kp H H') (f : ∀ x ∈ L.An :: L.own, ∀ o, H x = some o → H' x = some o) : MacP K H' C r L S ps sd es b := by
  obtain ⟨a, e1, st⟩ := M.ins
  obtain ⟨ts, e2, pr⟩ := M.dec
  refine ⟨⟨a, f _ (by simp [ML.own]) _ e1, st.tups k.tups⟩, M.pg.kp k, M.rule.tups k.tups, f _ (by simp) _ M.ans, ?_, ⟨ts, f _ (by simp [ML.own]) _ e2, Paired.mono2 (fun t p z => k _ _ z rfl) pr⟩, M.nd⟩
  have go : ∀ {qs : List Addr} {ls : List (List V)}, (∀ q ∈ qs, q ∈ L.qa) → Paired (fun q l => H q = some (.lst l)) qs ls → Paired (fun q l => H' q = some (.lst l)) qs ls := by
    intro qs ls hq pr
    induction pr with
    | nil => exact .nil
    | cons r rs ih => exact .cons (f _ (by simp [ML.own, hq _ List.mem_cons_self]) _ r) (ih fun q z => hq q (List.mem_cons_of_mem _ z))
  exact go (fun q z => z) M.said
theorem MacP.same {H' : Hp} (M : MacP K H C r L S ps sd es b) (s : Same H H') : MacP K H' C r L S ps sd es b := M.frame (.of s) fun x _ o e => s x o e
theorem nd_own (n : (L.An :: L.own).Nodup) : (∀ x ∈ L.own, L.An ≠ x) ∧ L.m ≠ L.De ∧ (∀ q ∈ L.qa, L.m ≠ q ∧ L.De ≠ q) ∧ L.qa.Nodup := by
  unfold ML.own at *
  simp only [List.nodup_cons, List.mem_cons, not_or] at n
  obtain ⟨⟨n1, n2, n3⟩, ⟨n4, n5⟩, n6, n7⟩ := n
  refine ⟨fun x hx q => ?_, n4, fun q hq => ⟨fun z => n5 (z ▸ hq), fun z => n6 (z ▸ hq)⟩, n7⟩
  rcases List.mem_cons.mp hx with z | z
  · exact n1 (q.trans z)
  · rcases List.mem_cons.mp z with z | z
    · exact n2 (q.trans z)
    · exact n3 (q ▸ z)
/-- the instance written anew -/
theorem MacP.setIns {a2 : Addr} {S2 : PSt} {c : Bool} (M : MacP K H C r L S ps sd es b) (st : StAt H a2 S2) : MacP K (upd H L.m (.ins C L.dx (mFs L.P L.R a2 L.An L.De c))) C r L S2 ps sd es c := by
  obtain ⟨a, e1, st0⟩ := M.ins
  obtain ⟨ts, e2, pr⟩ := M.dec
  obtain ⟨n1, n2, n3, n4⟩ := nd_own M.nd
  have k : Kp H (upd H L.m (.ins C L.dx (mFs L.P L.R a2 L.An L.De c))) := .upd e1 rfl
  refine ⟨⟨a2, upd_same, st.tups k.tups⟩, M.pg.kp k, M.rule.tups k.tups, by rw [upd_ne (n1 L.m (by simp [ML.own]))]; exact M.ans, ?_, ⟨ts, by rw [upd_ne (Ne.symm n2)]; exact e2, Paired.mono2 (fun t p z => k _ _ z rfl) pr⟩, M.nd⟩
  have go : ∀ {qs : List Addr} {ls : List (List V)}, (∀ q ∈ qs, q ∈ L.qa) → Paired (fun q l => H q = some (.lst l)) qs ls → Paired (fun q l => (upd H L.m (.ins C L.dx (mFs L.P L.R a2 L.An L.De c))) q = some (.lst l)) qs ls := by
    intro qs ls hq pr
    induction pr with
    | nil => exact .nil
    | cons r rs ih => exact .cons (by rw [upd_ne (Ne.symm (n3 _ (hq _ List.mem_cons_self)).1)]; exact r) (ih fun q z => hq q (List.mem_cons_of_mem _ z))
  exact go (fun q z => z) M.said
/-- one decided deed more -/
theorem MacP.addEnd {ts : List Addr} {t : Addr} {p : Nat × Nat} (M : MacP K H C r L S ps sd es b) (e2 : H L.De = some (.lst (ts.map V.ref))) (pr : Paired (PairAt H) ts es) (ht : PairAt H t p) : MacP K (upd H L.De (.lst (ts.map V.ref ++ [.ref t]))) C r L S ps sd (es ++ [p]) b := by
  obtain ⟨a, e1, st0⟩ := M.ins
  obtain ⟨n1, n2, n3, n4⟩ := nd_own M.nd
  have k : Kp H (upd H L.De (.lst (ts.map V.ref ++ [.ref t]))) := .upd e2 rfl
  refine ⟨⟨a, by rw [upd_ne n2]; exact e1, st0.tups k.tups⟩, M.pg.kp k, M.rule.tups k.tups, by rw [upd_ne (n1 L.De (by simp [ML.own]))]; exact M.ans, ?_, ⟨ts ++ [t], by rw [upd_same, List.map_append]; rfl, ?_⟩, M.nd⟩
  · have go : ∀ {qs : List Addr} {ls : List (List V)}, (∀ q ∈ qs, q ∈ L.qa) → Paired (fun q l => H q = some (.lst l)) qs ls → Paired (fun q l => (upd H L.De (.lst (ts.map V.ref ++ [.ref t]))) q = some (.lst l)) qs ls := by
      intro qs ls hq pr
      induction pr with
      | nil => exact .nil
      | cons r rs ih => exact .cons (by rw [upd_ne (Ne.symm (n3 _ (hq _ List.mem_cons_self)).2)]; exact r) (ih fun q z => hq q (List.mem_cons_of_mem _ z))
    exact go (fun q z => z) M.said
  · exact Paired.app (Paired.mono2 (fun t p z => k _ _ z rfl) pr) (.cons (k _ _ ht rfl) .nil)
/-- one answer more -/
theorem MacP.say {i : Nat} {q : Addr} {l : List V} {v : V} (M : MacP K H C r L S ps sd es b) (hq : L.qa[i]? = some q) (hl : sd[i]? = some l) : H q = some (.lst l) ∧ MacP K (upd H q (.lst (l ++ [v]))) C r L S ps (sd.set i (l ++ [v])) es b := by
  obtain ⟨a, e1, st0⟩ := M.ins
  obtain ⟨ts, e2, pr⟩ := M.dec
  obtain ⟨n1, n2, n3, n4⟩ := nd_own M.nd
  obtain ⟨q2, hq2, eq⟩ := paired_get M.said hl
  rw [hq] at hq2
  have hq2 := Option.some.inj hq2
  subst hq2
  have qm := List.mem_of_getElem? hq
  have k : Kp H (upd H q (.lst (l ++ [v]))) := .upd eq rfl
  refine ⟨eq, ⟨a, by rw [upd_ne (n3 q qm).1]; exact e1, st0.tups k.tups⟩, M.pg.kp k, M.rule.tups k.tups, by rw [upd_ne (n1 q (by simp [ML.own, qm]))]; exact M.ans, ?_, ⟨ts, by rw [upd_ne (n3 q qm).2]; exact e2, Paired.mono2 (fun t p z => k _ _ z rfl) pr⟩, M.nd⟩
  exact paired_say n4 hq M.said
end
/-- a machine that stands at s -/
def MacAt (K : PySem.W.Frag) (H : Hp) (C : Addr) (r : Rule) (L : ML) (s : Mach) : Prop := MacP K H C r L s.ps (s.hands.map Hand.deeds) (s.hands.map Hand.said) s.ends s.stale
end Sk


namespace Sk
open PySem PySem.Spec PyProof.Rows L2
/-- the two defs that read what is told -/
structure TxT (K : PySem.W.Frag) (mg : Str → Option Value) : Prop where
  decides : DefAt K mg "decides" s_decides
  was_stale : DefAt K mg "was_stale" s_was_stale
def spDecides (K : PySem.W.Frag) : Sp := fun vs H Q _ => ∃ (u : Addr) (st : Stp), vs = [.ref u] ∧ H u = some (.tup st.row) ∧ st.Ok ∧ ∀ H', Same H H' → Q (.bl st.dec) H'
def spWasStale (K : PySem.W.Frag) : Sp := fun vs H Q _ => ∃ (u b : Addr) (st : Stp) (S : PSt) (i : Nat) (x : PHand), vs = [.ref u, .ref b, .int (i : Int)] ∧ H u = some (.tup st.row) ∧ StAt H b S ∧ S.hands[i]? = some x ∧ (st.isEx = true → 1 ≤ x.top ∧ x.top ≤ S.nexts.length) ∧ Q (.bl (staleP st S x)) H
section
variable {P : Program} {w : World} {K : PySem.W.Frag} {mg : Str → Option Value} {base : Heap}
theorem scDecides : FnScope ["told"] ["told"] (defScope s_decides) := ⟨rfl, rfl, rfl, by decide +kernel, rfl, by decide +kernel, by decide +kernel⟩
theorem cal_decides (T : TxT K mg) : C8.Cal P w K mg base 1 "decides" (spDecides K) [] := by
  obtain ⟨f, fd, F, g⟩ := T.decides.ex
  refine cal_of F g (F.bindsN fun _ _ _ _ _ _ us hl => match us, hl with | [_], _ => rfl) (fok F scDecides (fun vs H Q E h => ?_) (fun cdv A outer s H vs Q E hr h => ?_))
  · obtain ⟨u, st, rfl, _⟩ := h
    rfl
  · obtain ⟨u, st, rfl, e, ok, fin⟩ := h
    refine ⟨_, (pss_one (ps_ret (pe_or (pe_cmpR op_eq (pe_ix ix_tup (pv 0) pe_int (fun _ _ => rfl)) pe_str (nomark _)) (pe_or (pe_cmpR (op_eqD hr.units) (pv 0) (pe_tup (pa_cons pe_str (pa_cons pe_str pa_nil))) (nomark _)) (pe_one (pe_cmpR (op_eqD hr.units) (pv 0) (pe_tup (pa_cons pe_str (pa_cons pe_non pa_nil))) (nomark _))))))), ?_⟩
    have e' := e
    rw [row_cons] at e'
    have l1 : SeqAt.shaped (.tuple [.str "ends", .str "done"]) = true := by decide +kernel
    have l2 : SeqAt.shaped (.tuple [.str "ends", .none]) = true := by decide +kernel
    refine ⟨_, rfl, u, _, 0, .str st.word, rfl, rfl, SqT.of e', atI_nat (j := 0) rfl, rfl, _, rfl, ?_⟩
    have f1 : ∀ H', Same H H' → st.isEx = true → Q (.bl true) H' := fun H' s q => by
      have := fin H' s
      unfold Stp.dec at this
      rw [q] at this
      exact this
    have f2 : ∀ H', Same H H' → st.isEx = false → st.isDone = true → Q (.bl true) H' := fun H' s q q2 => by
      have := fin H' s
      unfold Stp.dec at this
      rw [q, q2] at this
      exact this
    have f3 : ∀ H', Same H H' → st.isEx = false → st.isDone = false → Q (.bl st.isNone) H' := fun H' s q q2 => by
      have := fin H' s
      unfold Stp.dec at this
      rw [q, q2] at this
      exact this
    refine (show if decide (V.str st.word = V.str "exchanges") = true then _ else _ from ?_)
    rw [word_ex]
    refine ite2 (fun q => f1 H (.refl H) q) (fun q => ?_)
    have q := Bool.eq_false_iff.mpr q
    refine ⟨_, rfl, by show 2 ≤ sizeLine; decide, fun t1 n1 => ?_⟩
    have s1 := same_upd (o := .tup [V.str "ends", .str "done"]) n1
    refine ⟨_, _, stp_dp ok (SqT.of (s1 _ _ e)), .tup (SqT.of upd_same) (.cons (.str _) (.cons (.str _) .nil)), stp_lay ok, l1, _, rfl, ?_⟩
    refine (show if PyData.eqv st.dat (.tuple [.str "ends", .str "done"]) = true then _ else _ from ?_)
    rw [eqv_done ok]
    refine ite2 (fun q2 => f2 _ s1 q q2) (fun q2 => ?_)
    have q2 := Bool.eq_false_iff.mpr q2
    refine ⟨_, rfl, by show 2 ≤ sizeLine; decide, fun t2 n2 => ?_⟩
    have s2 := same_upd (o := .tup [V.str "ends", .non]) n2
    refine ⟨_, _, stp_dp ok (SqT.of ((s1.trans s2) _ _ e)), .tup (SqT.of upd_same) (.cons (.str _) (.cons .non .nil)), stp_lay ok, l2, ?_⟩
    have := f3 _ (s1.trans s2) q q2
    rw [← eqv_none ok] at this
    exact this
theorem scWasStale : FnScope ["told", "state", "hand", "cell"] ["told", "state", "hand"] (defScope s_was_stale) := ⟨rfl, rfl, rfl, by decide +kernel, rfl, by decide +kernel, by decide +kernel⟩
theorem cal_was_stale (T : TxT K mg) (C : TxC mg) : C8.Cal P w K mg base 1 "was_stale" (spWasStale K) [] := by
  obtain ⟨f, fd, F, g⟩ := T.was_stale.ex
  refine cal_of F g (F.bindsN fun _ _ _ _ _ _ us hl => match us, hl with | [_, _, _], _ => rfl) (fok F scWasStale (fun vs H Q E h => ?_) (fun cdv A outer s H vs Q E hr h => ?_))
  · obtain ⟨u, b, st, S, i, x, rfl, _⟩ := h
    rfl
  · obtain ⟨u, b, st, S, i, x, rfl, e, sa, hi, ok, fin⟩ := h
    refine ⟨_, (pss_cons
    (ps_if (pt_cmpR op_ne (pe_ix ix_tup (pv 0) pe_int (fun _ _ => rfl)) pe_str (nomark _)) (pss_one (ps_ret pe_bl)) pss_nil) (pss_cons
    (ps_set (i := 3) scWasStale.nd rfl (.inl rfl) (pe_ix ix_tup (pe_ix ix_tup (pe_ix ix_tup (pv 1) (pe_num (n := 5) rfl C.HANDS) (fun _ _ => rfl)) (pv 2) (fun _ _ => rfl)) (pe_num (n := 3) rfl C.TOP_READ) (fun _ _ => rfl))) (pss_one
    (ps_ret (pe_cmpR op_ne (pe_ix ix_tup (pe_ix ix_tup (pv 1) (pe_num (n := 2) rfl C.NEXTS) (fun _ _ => rfl)) (pe_op op_sub (pv 3) pe_int) (fun _ _ => rfl)) (pe_ix ix_tup (pv 0) pe_int (fun _ _ => rfl)) (nomark _)))))), ?_⟩
    have e' := e
    rw [row_cons] at e'
    refine ⟨_, rfl, u, _, 0, .str st.word, rfl, rfl, SqT.of e', atI_nat (j := 0) rfl, rfl, _, rfl, ?_⟩
    obtain ⟨n, fr, v, hh, as, t, e0, en, ef, ev, eh, pr, et, ex⟩ := sa.hand hi
    cases st with
    | exchanges c =>
      refine iteF ⟨_, rfl, b, _, 5, _, rfl, rfl, SqT.of e0, rfl, _, rfl, hh, _, (i : Int), .ref t, rfl, rfl, SqT.of eh, at_ref et, t, _, 3, _, rfl, rfl, SqT.of ex, rfl, ?_⟩
      obtain ⟨t1, t2⟩ := ok rfl
      refine ⟨_, rfl, b, _, 2, _, rfl, rfl, SqT.of e0, rfl, _, rfl, _, _, rfl, rfl, n, _, (x.top : Int) - 1, _, rfl, rfl, SqT.of en, at_link t1 t2, _, rfl, u, _, 1, _, rfl, rfl, SqT.of e, rfl, rfl, ?_⟩
      have : staleP (.exchanges c) S x = !decide (V.int (linkAt S.nexts x.top : Int) = V.int (c : Int)) := by
        rw [dec_nat]
        unfold staleP
        by_cases q : linkAt S.nexts x.top = c <;> simp [q]
      rw [this] at fin
      exact fin
    | rests => exact iteT fin
    | takes c => exact iteT fin
    | reads c => exact iteT fin
    | ends c => exact iteT fin
    | links c => exact iteT fin
    | marks c => exact iteT fin
    | looks c => exact iteT fin
    | follows c => exact iteT fin
    | misses => exact iteT fin
end
end Sk


namespace Sk
open PySem PySem.Spec PyProof.Rows L2
section
variable {P : Program} {w : World} {K : PySem.W.Frag} {mg : Str → Option Value} {base : Heap} {f : Addr} {fd : FuncData}
theorem scDice : FnScope ["_law_script", "_law_mixed", "_law_cell"] ["_law_script"] (defScope sDice) := ⟨rfl, rfl, rfl, by decide +kernel, rfl, by decide +kernel, by decide +kernel⟩
theorem scNext : FnScope ["_law_dice_here", "_law_many", "_law_found", "_law_cell"] ["_law_dice_here", "_law_many"] (defScope sNext) := ⟨rfl, rfl, rfl, by decide +kernel, rfl, by decide +kernel, by decide +kernel⟩

theorem ok_dice (F : FnP K "_law_dice" "_law_dice" sDice f fd) (mL : mg "len" = none) (mI : mg "int" = none) : FnOk P w K mg base CX0 1 f fd ["_law_script"] (spDice K) := by
  refine fok F scDice (fun vs H Q E h => ?_) (fun cdv A outer s H vs Q E hr h => ?_)
  · obtain ⟨a, ns, rfl, _⟩ := h
    rfl
  · obtain ⟨a, ns, rfl, hS, k⟩ := h
    refine ⟨_, pss_cons (ps_set (i := 1) scDice.nd rfl (.inl rfl) pe_int)
      (pss_cons (ps_for PassesOwn.never rfl (pi_list (pv 0)) (pg_name (i := 2) scDice.nd rfl (.inl rfl))
        (pss_one (ps_set (i := 1) scDice.nd rfl (.inl rfl) (pe_op op_mod (pe_op op_add (pe_op op_add (pe_op op_mul (pv 1) pe_int) (pe_op op_mul (pe_op op_mod (pv 2) pe_int) pe_int)) pe_int) pe_int))))
      (pss_one (ps_ret (pe_lst (pa_cons (pv 0) (pa_cons pe_int (pa_cons (pe_op op_mul (pv 1) (pe_callTy call_int1 (by rfl) mI (by decide +kernel) (pa_cons (pe_cmpR op_gt (pe_callB call_len_seq (by rfl) mL PySem.boot_len (pa_cons (pv 0) pa_nil)) pe_int (nomark _)) pa_nil))) (pa_cons pe_int pa_nil)))))))), ?_⟩
    refine ⟨_, rfl, a, rfl, ⟨_, hS⟩, for_list (K := K) (a := a) (xs := ns.map V.int) (fun i σ H' => H' = H ∧ ∃ (m : Int) (v : Option V), σ = [some (.ref a), some (.int m), v] ∧ 0 ≤ m ∧ m < 2147483647)
      ⟨rfl, 0, none, rfl, by omega, by omega⟩ (fun i σ H' _ ⟨e, _⟩ => by rw [e]; exact hS) ?_ ?_⟩
    · rintro i y σ H' hi ⟨rfl, m, v, rfl, h0, h1⟩
      obtain ⟨u, rfl⟩ : ∃ u, y = V.int u := by
        rw [List.getElem?_map] at hi
        cases e : ns[i]? with
        | none => rw [e] at hi; cases hi
        | some u => rw [e] at hi; exact ⟨u, (Option.some.inj hi).symm⟩
      refine ⟨_, rfl, _, _, rfl, rfl, .inl ⟨by omega, by omega⟩, _, rfl, _, _, rfl, rfl, (by show (0 : Int) < 2147483647; decide), _, _, rfl, rfl, .inr ⟨by decide, by decide⟩, _, _, rfl, rfl, _, _, rfl, rfl, _, _, rfl, rfl, (by show (0 : Int) < 2147483647; decide), ?_⟩
      exact ⟨rfl, _, _, rfl, Int.emod_nonneg _ (by decide), Int.emod_lt_of_pos _ (by decide)⟩
    · rintro σ H' ⟨rfl, m, v, rfl, h0, h1⟩
      refine ⟨_, rfl, _, rfl, _, rfl, a, _, rfl, .inl hS, _, _, rfl, rfl, .inr ⟨_, rfl, _, _, rfl, rfl, .inl ⟨by omega, by omega⟩, (by show 4 ≤ sizeLine; decide), fun p hp => ?_⟩⟩
      refine k p _ hp (same_upd hp) ⟨⟨_, _, _, upd_same, by omega, ?_, ?_⟩, .new hS hp⟩
      · split
        · omega
        · omega
      · split
        · omega
        · omega
theorem ok_next (F : FnP K "_law_next" "_law_next" sNext f fd) (mL : mg "len" = none) : FnOk P w K mg base CX0 1 f fd ["_law_dice_here", "_law_many"] (spNext K) := by
  refine fok F scNext (fun vs H Q E h => ?_) (fun cdv A outer s H vs Q E hr h => ?_)
  · obtain ⟨p, a, ns, n, rfl, _⟩ := h
    rfl
  · obtain ⟨p, a, ns, n, rfl, d, n0, n1, k⟩ := h
    refine ⟨_, pss_cons (ps_if (pt_cmpR op_gt (pe_ix ix_list (pv 0) pe_int (fun _ _ => rfl)) pe_int (nomark _))
        (pss_cons (ps_set (i := 2) scNext.nd rfl (.inl rfl) (pe_op op_mod (pe_ix ix_list (pv 0) pe_int (fun _ _ => rfl)) (pv 1)))
        (pss_cons (ps_asg (pe_op op_fdiv (pe_ix ix_list (pv 0) pe_int (fun _ _ => rfl)) (pv 1)) (pg_sub (pv 0) pe_int set_list))
        (pss_one (ps_ret (pv 2))))) pss_nil)
      (pss_cons (ps_asg (pe_op op_add (pe_ix ix_list (pv 0) pe_int (fun _ _ => rfl)) pe_int) (pg_sub (pv 0) pe_int set_list))
      (pss_cons (ps_if (pt_cmpR op_le (pe_ix ix_list (pv 0) pe_int (fun _ _ => rfl)) (pe_callB call_len_seq (by rfl) mL PySem.boot_len (pa_cons (pe_ix ix_list (pv 0) pe_int (fun _ _ => rfl)) pa_nil)) (nomark _))
        (pss_cons (ps_set (i := 3) scNext.nd rfl (.inl rfl) (pe_ix ix_list (pe_ix ix_list (pv 0) pe_int (fun _ _ => rfl)) (pe_op op_sub (pe_ix ix_list (pv 0) pe_int (fun _ _ => rfl)) pe_int) (fun _ _ => rfl)))
        (pss_cons (ps_asg (pe_ifExp (pt_cmpR op_ge (pv 3) (pe_op op_pow pe_int pe_int) (nomark _)) (pe_op op_fdiv (pv 3) (pv 1)) pe_int) (pg_sub (pv 0) pe_int set_list))
        (pss_one (ps_ret (pe_op op_mod (pv 3) (pv 1)))))) pss_nil)
      (pss_cons (ps_asg (pe_op op_mod (pe_op op_mul (pe_ix ix_list (pv 0) pe_int (fun _ _ => rfl)) pe_int) pe_int) (pg_sub (pv 0) pe_int set_list))
      (pss_one (ps_ret (pe_op op_mod (pe_op op_fdiv (pe_ix ix_list (pv 0) pe_int (fun _ _ => rfl)) pe_int) (pv 1))))))), ?_⟩
    obtain ⟨i, m, c, hp, i0, m0, m1⟩ := d.at_
    have D0 := Drew.refl d
    refine ⟨_, rfl, p, _, _, _, rfl, rfl, .of hp, rfl, _, _, rfl, rfl, _, rfl, ?_⟩
    refine ite2 (fun hc => ?_) (fun hc => ?_)
    · refine ⟨_, rfl, p, _, _, _, rfl, rfl, .of hp, rfl, _, rfl, _, _, rfl, rfl, n0, ?_⟩
      refine ⟨_, rfl, p, _, _, _, rfl, rfl, .of hp, rfl, _, rfl, _, _, rfl, rfl, ⟨n0, n1⟩, _, rfl, p, _, _, 3, rfl, rfl, hp, rfl, _, rfl, ?_⟩
      exact k _ _ (Int.emod_nonneg _ (by omega)) (Int.emod_lt_of_pos _ n0) (dice_set D0 i0 m0 m1 rfl)
    · refine ⟨_, rfl, p, _, _, _, rfl, rfl, .of hp, rfl, _, _, rfl, rfl, _, rfl, p, _, _, 1, rfl, rfl, hp, rfl, ?_⟩
      have D1 : Drew K p a ns H (upd H p (.lst [.ref a, .int (i + 1), .int m, .int c])) := dice_set D0 (by omega) m0 m1 rfl
      have e1 : (upd H p (.lst [.ref a, .int (i + 1), .int m, .int c])) p = some (.lst [.ref a, .int (i + 1), .int m, .int c]) := upd_same
      refine ⟨_, rfl, p, _, _, _, rfl, rfl, .of e1, rfl, _, rfl, p, _, _, _, rfl, rfl, .of e1, rfl, a, _, rfl, .inl D1.d.sc.seq, _, _, rfl, rfl, _, rfl, ?_⟩
      refine ite2 (fun hl => ?_) (fun hl => ?_)
      · have hl' : i + 1 ≤ ((ns.map V.int).length : Int) := of_decide_eq_true hl
        rw [List.length_map] at hl'
        obtain ⟨j, rfl⟩ : ∃ j : Nat, i = (j : Int) := ⟨i.toNat, by omega⟩
        have hj : j < ns.length := by omega
        have hx : (ns.map V.int)[j]? = some (V.int ns[j]) := by rw [List.getElem?_map, List.getElem?_eq_getElem hj]; rfl
        refine ⟨_, rfl, p, _, _, _, rfl, rfl, .of e1, rfl, _, rfl, p, _, _, _, rfl, rfl, .of e1, rfl, _, _, rfl, rfl, a, _, _, _, rfl, rfl, D1.d.sc.seq, at_of (by omega) hx, ?_⟩
        refine ⟨_, rfl, _, _, rfl, rfl, ⟨by decide, by decide, by decide⟩, _, _, rfl, rfl, _, rfl, ?_⟩
        refine ite2 (fun hg => ?_) (fun hg => ?_)
        · refine ⟨_, rfl, _, rfl, _, _, rfl, rfl, ⟨n0, n1⟩, _, rfl, p, _, _, 3, rfl, rfl, e1, rfl, _, rfl, _, rfl, _, _, rfl, rfl, n0, ?_⟩
          exact k _ _ (Int.emod_nonneg _ (by omega)) (Int.emod_lt_of_pos _ n0) (dice_set D1 (by omega) m0 m1 rfl)
        · refine ⟨_, rfl, p, _, _, 3, rfl, rfl, e1, rfl, _, rfl, _, rfl, _, _, rfl, rfl, n0, ?_⟩
          exact k _ _ (Int.emod_nonneg _ (by omega)) (Int.emod_lt_of_pos _ n0) (dice_set D1 (by omega) m0 m1 rfl)
      · refine ⟨_, rfl, p, _, _, _, rfl, rfl, .of e1, rfl, _, _, rfl, rfl, .inl ⟨by omega, by omega⟩, _, _, rfl, rfl, (by show (0 : Int) < 2147483647; decide), _, rfl, p, _, _, 2, rfl, rfl, e1, rfl, ?_⟩
        have D2 : Drew K p a ns H (upd (upd H p (.lst [.ref a, .int (i + 1), .int m, .int c])) p (.lst [.ref a, .int (i + 1), .int (m * 48271 % 2147483647), .int c])) :=
          dice_set D1 (by omega) (Int.emod_nonneg _ (by decide)) (Int.emod_lt_of_pos _ (by decide)) rfl
        refine ⟨_, rfl, p, _, _, _, rfl, rfl, .of upd_same, rfl, _, _, rfl, rfl, ⟨by decide, by decide⟩, _, rfl, _, _, rfl, rfl, n0, ?_⟩
        exact k _ _ (Int.emod_nonneg _ (by omega)) (Int.emod_lt_of_pos _ n0) D2
end
end Sk


namespace Sk
open PySem PySem.Spec PyProof.Rows L2
/-- the errors' classes: PileError at B, BadPile at CP, BadDeed at CD -/
structure TxErr (K : PySem.W.Frag) (mg : Str → Option Value) (B CP CD fP fD : Addr) (mc : Value) : Prop where
  gB : mg "PileError" = some (.ref B)
  base : BaseI K B mc
  gP : mg "BadPile" = some (.ref CP)
  oP : OexC K CP
  iP : PySem.W.findIn K (.ref CP) "__init__" = some (some (.ref fP))
  tP : PySem.W.typeIn K (.ref fP) = some (.type "function")
  nP : PySem.W.findIn K (.ref CP) "at" = some none
  gD : mg "BadDeed" = some (.ref CD)
  oD : OexC K CD
  iD : PySem.W.findIn K (.ref CD) "__init__" = some (some (.ref fD))
  tD : PySem.W.typeIn K (.ref fD) = some (.type "function")
  nH : PySem.W.findIn K (.ref CD) "hand" = some none
  nN : PySem.W.findIn K (.ref CD) "number" = some none
/-- a new error with one field .. -/
def spInit1 (K : PySem.W.Frag) (C : Addr) (f : Str) : Sp := fun vs H Q _ => ∃ (a : Addr) (n : Int), vs = [.ref a, .int n] ∧ n.natAbs.log2 < 1920 ∧ H a = some (exo a C none) ∧
  ∀ dx, H dx = none → dx ≠ a → Q .non (upd (upd H dx (exd dx [(f, .int n)])) a (exo a C (some dx)))
/-- .. with two -/
def spInit2 (K : PySem.W.Frag) (C : Addr) (f g : Str) : Sp := fun vs H Q _ => ∃ (a : Addr) (n m : Int), vs = [.ref a, .int n, .int m] ∧ n.natAbs.log2 < 1920 ∧ m.natAbs.log2 < 1920 ∧ H a = some (exo a C none) ∧
  ∀ dx, H dx = none → dx ≠ a → Q .non (upd (upd (upd H dx (exd dx [(f, .int n)])) a (exo a C (some dx))) dx (exd dx [(g, .int m), (f, .int n)]))
theorem txt_fit {x : Str} {i : Int} (h : i.natAbs.log2 < 1920) (hx : x.length ≤ 10000) : (x ++ (Str.ofString (toString i))).length ≤ 20000 := by
  rw [PySem.Str.length_append]
  have := PyProof.Rows.int_text_len_1921 h
  omega
theorem line_of {n : Nat} (h : n ≤ 20000) : n ≤ sizeLine := by
  rw [sizeLine_eq]
  omega
section
variable {P : Program} {w : World} {K : PySem.W.Frag} {mg : Str → Option Value} {base : Heap} {f : Addr} {fd : FuncData} {B CP CD fP fD : Addr} {mc : Value}
theorem scInitP : FnScope ["self", "at"] ["self", "at"] (defScope sInitP) := ⟨rfl, rfl, rfl, by decide +kernel, rfl, by decide +kernel, by decide +kernel⟩
theorem scInitD : FnScope ["self", "hand", "number"] ["self", "hand", "number"] (defScope sInitD) := ⟨rfl, rfl, rfl, by decide +kernel, rfl, by decide +kernel, by decide +kernel⟩
theorem ok_initP (F : FnP K "__init__" "BadPile.__init__" sInitP f fd) (T : TxErr K mg B CP CD fP fD mc) : FnOk P w K mg base CX0 1 f fd ["self", "at"] (spInit1 K CP "at") := by
  refine fok F scInitP (fun vs H Q E h => ?_) (fun cdv A outer s H vs Q E hr h => ?_)
  · obtain ⟨a, n, rfl, _⟩ := h
    rfl
  · obtain ⟨a, n, rfl, hz, ha, k⟩ := h
    refine ⟨_, pss_cons (ps_expr (pe_ownInit (by rfl) T.gB T.base (pa_cons (pv 0) (pa_cons (pe_joined (.cons pe_str (.cons (pe_fmt (pv 1)) .nil))) pa_nil)))) (pss_one (ps_ost (pv 0) (pv 1))), ?_⟩
    refine ⟨_, rfl, _, rfl, ?l1, _, rfl, .inr ⟨n, rfl, hz, _, rfl, ?l2, a, CP, _, rfl, ?l3, T.oP, ha, _, rfl, _, rfl, a, CP, rfl, T.oP, T.nP, .inl ⟨ha, fun dx h1 h2 => k dx h1 h2⟩⟩⟩
    case l1 => exact line_of (by decide +kernel)
    case l2 => exact line_of (txt_fit hz (by decide +kernel))
    case l3 => show 1 ≤ 1000; decide
theorem ok_initD (F : FnP K "__init__" "BadDeed.__init__" sInitD f fd) (T : TxErr K mg B CP CD fP fD mc) : FnOk P w K mg base CX0 1 f fd ["self", "hand", "number"] (spInit2 K CD "hand" "number") := by
  refine fok F scInitD (fun vs H Q E h => ?_) (fun cdv A outer s H vs Q E hr h => ?_)
  · obtain ⟨a, n, m, rfl, _⟩ := h
    rfl
  · obtain ⟨a, n, m, rfl, hz, hz2, ha, k⟩ := h
    refine ⟨_, pss_cons (ps_expr (pe_ownInit (by rfl) T.gB T.base (pa_cons (pv 0) (pa_cons (pe_joined (.cons pe_str (.cons (pe_fmt (pv 1)) (.cons pe_str (.cons (pe_fmt (pv 2)) .nil))))) pa_nil)))) (pss_cons (ps_ost (pv 0) (pv 1)) (pss_one (ps_ost (pv 0) (pv 2)))), ?_⟩
    refine ⟨_, rfl, _, rfl, ?l1, _, rfl, .inr ⟨n, rfl, hz, _, rfl, ?l2, _, rfl, ?l3, _, rfl, .inr ⟨m, rfl, hz2, _, rfl, ?l4, a, CD, _, rfl, ?l5, T.oD, ha, _, rfl, _, rfl, a, CD, rfl, T.oD, T.nH, .inl ⟨ha, fun dx h1 h2 => ?_⟩⟩⟩⟩
    case l1 => exact line_of (by decide +kernel)
    case l2 => exact line_of (txt_fit hz (by decide +kernel))
    case l3 =>
      refine line_of ?_
      rw [PySem.Str.length_append]
      have := txt_fit (x := Str.empty ++ Str.ofString "no deed: hand ") hz (by decide +kernel)
      have e1 : (Str.ofString ", deed ").length = 7 := by decide +kernel
      have e2 : (Str.empty ++ Str.ofString "no deed: hand ").length = 14 := by decide +kernel
      rw [PySem.Str.length_append] at this ⊢
      have := PyProof.Rows.int_text_len_1921 hz
      omega
    case l4 =>
      refine line_of ?_
      rw [PySem.Str.length_append, PySem.Str.length_append, PySem.Str.length_append]
      have e1 : (Str.ofString ", deed ").length = 7 := by decide +kernel
      have e2 : (Str.empty ++ Str.ofString "no deed: hand ").length = 14 := by decide +kernel
      have := PyProof.Rows.int_text_len_1921 hz
      have := PyProof.Rows.int_text_len_1921 hz2
      omega
    case l5 => show 1 ≤ 1000; decide
    refine ⟨_, rfl, _, rfl, a, CD, rfl, T.oD, T.nN, .inr ⟨dx, _, upd_same, (by rw [upd_ne h2, upd_same]), (by show 1 ≤ 900; decide), k dx h1 h2⟩⟩
/-! ### values and deeds -/
def spIsVal : Sp := fun vs H Q _ => ∃ n : Int, vs = [.int n] ∧ Q (.bl (valB n)) H
theorem scIsVal : FnScope ["number"] ["number"] (defScope sIsVal) := ⟨rfl, rfl, rfl, by decide +kernel, rfl, by decide +kernel, by decide +kernel⟩
theorem ok_isVal (F : FnP K "is_value" "is_value" sIsVal f fd) (mH : ∃ t, mg "HIGHEST_VALUE" = some (.int 99 t)) : FnOk P w K mg base CX0 1 f fd ["number"] spIsVal := by
  obtain ⟨t, mH⟩ := mH
  refine fok F scIsVal (fun vs H Q E h => ?_) (fun cdv A outer s H vs Q E hr h => ?_)
  · obtain ⟨n, rfl, _⟩ := h
    rfl
  · obtain ⟨n, rfl, k⟩ := h
    refine ⟨_, pss_one (ps_ret (pe_chain op_le op_le pe_int (pv 0) (pe_glob (v := .int 99) rfl mH ⟨_, rfl⟩))), ?_⟩
    refine ⟨_, rfl, _, _, rfl, rfl, _, rfl, ?_⟩
    refine ite2 (fun h1 => ⟨_, _, rfl, rfl, ?_⟩) (fun h1 => ?_)
    · have e : valB n = decide (n ≤ 99) := by unfold valB; rw [h1, Bool.true_and]
      rw [e] at k
      exact k
    · have e : valB n = false := by unfold valB; rw [Bool.eq_false_iff.mpr h1, Bool.false_and]
      rw [e] at k
      exact k
def spIsDeed (K : PySem.W.Frag) : Sp := fun vs H Q _ => ∃ (t : Addr) (r : Row), vs = [.ref t] ∧ SqT K H t (rowV r) ∧ Lay r ∧ Q (.bl (okRow r)) H
theorem scIsDeed : FnScope ["deed"] ["deed"] (defScope sIsDeed) := ⟨rfl, rfl, rfl, by decide +kernel, rfl, by decide +kernel, by decide +kernel⟩
theorem ok_isDeed {fV pop : Addr} {fdV : FuncData} (F : FnP K "is_deed" "is_deed" sIsDeed f fd) (FV : FnP K "is_value" "is_value" sIsVal fV fdV) (gV : mg "is_value" = some (.ref fV)) (mH : ∃ t, mg "HIGHEST_VALUE" = some (.int 99 t)) (TP : TxPop K mg pop) (mL : mg "len" = none) :
    FnOk P w K mg base CX0 2 f fd ["deed"] (spIsDeed K) := by
  have G : FnOk P w K mg base CX0 1 fV fdV ["number"] spIsVal := ok_isVal FV mH
  have b : Binds K fdV ["number"] [] := FV.bindsN fun _ _ _ _ _ _ us hl => match us, hl with | [_], _ => rfl
  refine fok F scIsDeed (fun vs H Q E h => ?_) (fun cdv A outer s H vs Q E hr h => ?_)
  · obtain ⟨t, r, rfl, _⟩ := h
    rfl
  · obtain ⟨t, r, rfl, hS, hL, k⟩ := h
    refine ⟨_, pss_cons (ps_if (pt_cmpR (op_eqD hr.units) (pv 0) (pe_glob (v := .ref pop) rfl TP.g rfl) (nomark _)) (pss_one (ps_ret pe_bl)) pss_nil)
      (pss_one (ps_ret (pe_and (pe_cmpR op_eq (pe_callB call_len_seq (by rfl) mL PySem.boot_len (pa_cons (pv 0) pa_nil)) pe_int (nomark _))
        (pe_and (pe_cmpR op_eq (pe_ix ix_tup (pv 0) pe_int (fun _ _ => rfl)) pe_str (nomark _)) (pe_one (pe_call G hr rfl gV FV.kp b .nil pass0 (pa_cons (pe_ix ix_tup (pv 0) pe_int (fun _ _ => rfl)) pa_nil))))))), ?_⟩
    refine ⟨_, rfl, _, _, row_dp hS, .tup (TP.at_ _) (.cons (.str _) .nil), hL, pop_lay, _, rfl, ?_⟩
    rw [eqv_pop]
    refine ite2 (fun hp => ?_) (fun hp => ?_)
    · rw [isPop_ok hp] at k
      exact k
    · refine ⟨_, rfl, t, _, rfl, .inr hS, rfl, _, rfl, ?_⟩
      cases r with
      | none =>
        exact iteF k
      | some q =>
        obtain ⟨z, is⟩ := q
        cases is with
        | nil =>
          have e : okRow (some (z, [])) = false := by
            have : ¬ z = sPop := fun q => hp (by rw [q]; simp [isPop])
            simp [okRow, this]
          rw [e] at k
          exact iteF k
        | cons v l =>
          cases l with
          | nil =>
            refine iteT ⟨_, rfl, _, _, _, _, rfl, rfl, hS, rfl, rfl, _, rfl, ?_⟩
            refine ite2 (fun hz => ?_) (fun hz => ?_)
            · have ez : z = sPush := by simpa using of_decide_eq_true hz
              refine ⟨_, rfl, _, _, _, _, rfl, rfl, hS, rfl, v, rfl, ?_⟩
              have e : okRow (some (z, [v])) = valB v := by simp [okRow, ez]
              rw [e] at k
              exact k
            · have nz : ¬ z = sPush := fun q => hz (by rw [q]; exact decide_eq_true rfl)
              have e : okRow (some (z, [v])) = false := by simp [okRow, nz]
              rw [e] at k
              exact k
          | cons u l =>
            have hn : ¬ ((V.int (((rowV (some (z, v :: u :: l))).length : Nat) : Int)) = V.int 2) := by
              intro q
              have q2 := V.int.inj q
              simp [rowV] at q2
              omega
            show (if decide (V.int (((rowV (some (z, v :: u :: l))).length : Nat) : Int) = V.int 2) = true then _ else _)
            rw [decide_eq_false hn]
            exact iteF k
end
end Sk


namespace Sk
open PySem PySem.Spec PyProof.Rows L2
/-- what is wanted of an error of the class at C with the fields fs, raised over H -/
def Wants (E : XK) (H : Hp) (C : Addr) (fs : List (Str × V)) : Prop := ∀ (d : Addr) (H' : Hp), Same H H' → H' d = some (.xd fs) → E (.ref C) (some d) H'
section
variable {K : PySem.W.Frag} {C : Addr} {f g : Str}
theorem same_exc {H1 H2 : Hp} {a d : Addr} {u : HO} (na : H1 a = none) (nd : H1 d = none) (k : ∀ b o, b ≠ a → b ≠ d → H1 b = some o → H2 b = some o) : Same H1 (upd (del H2 a) d u) := fun b o e => by
  rw [upd_ne (ne_of_none e nd), del_ne (ne_of_none e na)]
  exact k b o (ne_of_none e na) (ne_of_none e nd) e
theorem raise1 {H1 : Hp} {E : XK} {n : Int} (hz : n.natAbs.log2 < 1920) (k : Wants E H1 C [(f, .int n)]) : ([V.int n] : List V).length ≤ 1000 ∧ ∀ a, H1 a = none → spInit1 K C f (.ref a :: ([V.int n] ++ [])) (upd H1 a (exo a C none))
    (fun v H2 => v = .non ∧ ∃ (d : Addr) (fs : List (Str × V)), H2 a = some (exo a C (some d)) ∧ H2 d = some (exd d fs) ∧ H1 d = none ∧ E (.ref C) (some d) (upd (del H2 a) d (.xd fs))) E0 := by
  refine ⟨by show 1 ≤ 1000; decide, fun a na => ⟨a, n, rfl, hz, upd_same, fun dx h1 h2 => ⟨rfl, dx, _, upd_same, (by rw [upd_ne h2, upd_same]), ?_, ?_⟩⟩⟩
  · rw [upd_ne h2] at h1
    exact h1
  · have nd : H1 dx = none := by
      rw [upd_ne h2] at h1
      exact h1
    exact k dx _ (same_exc na nd fun b o q1 q2 e => by rw [upd_ne q1, upd_ne q2, upd_ne q1]; exact e) upd_same
theorem raise2 {H1 : Hp} {E : XK} {n m : Int} (hz : n.natAbs.log2 < 1920) (hz2 : m.natAbs.log2 < 1920) (k : Wants E H1 C [(g, .int m), (f, .int n)]) : ([V.int n, V.int m] : List V).length ≤ 1000 ∧ ∀ a, H1 a = none → spInit2 K C f g (.ref a :: ([V.int n, V.int m] ++ [])) (upd H1 a (exo a C none))
    (fun v H2 => v = .non ∧ ∃ (d : Addr) (fs : List (Str × V)), H2 a = some (exo a C (some d)) ∧ H2 d = some (exd d fs) ∧ H1 d = none ∧ E (.ref C) (some d) (upd (del H2 a) d (.xd fs))) E0 := by
  refine ⟨by show 2 ≤ 1000; decide, fun a na => ⟨a, n, m, rfl, hz, hz2, upd_same, fun dx h1 h2 => ⟨rfl, dx, _, (by rw [upd_ne (Ne.symm h2), upd_same]), upd_same, ?_, ?_⟩⟩⟩
  · rw [upd_ne h2] at h1
    exact h1
  · have nd : H1 dx = none := by
      rw [upd_ne h2] at h1
      exact h1
    exact k dx _ (same_exc na nd fun b o q1 q2 e => by rw [upd_ne q2, upd_ne q1, upd_ne q2, upd_ne q1]; exact e) upd_same
end
section
variable {P : Program} {w : World} {K : PySem.W.Frag} {mg : Str → Option Value} {base : Heap} {f : Addr} {fd : FuncData}
/-- a def that may let an own error out -/
theorem fokN {x q : Str} {st : Stmt} {N ps : List Str} {k : Nat} {sp : Sp} (F : FnP K x q st f fd) (S : FnScope N ps (defScope st)) (len : ∀ vs H Q E, sp vs H Q E → vs.length = ps.length)
    (body : ∀ (cdv : Value) (A : Around) (outer : List Env) (s : Shared) (H : Hp) (vs : List V) (Q : VK) (E : XK), Room k (A.deeper (envOfC q (defScope st) s.heap.objs.size f cdv)) → sp vs H Q E →
      ∃ t, PSs (cxOf (L2N.CX P w) P w K mg base N q (defScope st) f cdv A outer s H E) (defBody st) t ∧ t { nx := fun _ H' => Q .non H', rt := Q } (start N vs) H) : FnOk P w K mg base (L2N.CX P w) (k + 1) f fd ps sp :=
  F.ok S len body
theorem small_log {n : Int} (h : n.natAbs < 2 ^ 64) : n.natAbs.log2 < 1920 := by
  by_cases z : n.natAbs = 0
  · rw [z]; decide
  · have := (Nat.log2_lt z).mpr h
    omega
def spChkV (K : PySem.W.Frag) (CP : Addr) : Sp := fun vs H Q E => ∃ (a : Addr) (ns : List Int), vs = [.ref a] ∧ SqL K H a (ns.map V.int) ∧ ns.length ≤ 1000 ∧ (6 < ns.length → Wants E H CP [("at", .int 6)]) ∧
  (ns.length ≤ 6 → ∀ i : Nat, firstNot valB ns = some i → Wants E H CP [("at", .int (i : Int))]) ∧ (ns.length ≤ 6 → firstNot valB ns = none → ∀ H', Same H H' → Q .non H')
theorem scChkV : FnScope ["values", "at", "value"] ["values"] (defScope sChkV) := ⟨rfl, rfl, rfl, by decide +kernel, rfl, by decide +kernel, by decide +kernel⟩
theorem ok_chkV {fV fP B CP CD fD : Addr} {mc : Value} {fdV fdP : FuncData} (F : FnP K "check_values" "check_values" sChkV f fd) (FV : FnP K "is_value" "is_value" sIsVal fV fdV) (gV : mg "is_value" = some (.ref fV)) (mH : ∃ t, mg "HIGHEST_VALUE" = some (.int 99 t))
    (mM : ∃ t, mg "MOST_VALUES" = some (.int 6 t)) (T : TxErr K mg B CP CD fP fD mc) (FP : FnP K "__init__" "BadPile.__init__" sInitP fP fdP) (mL : mg "len" = none) (mE : mg "enumerate" = none) : FnOk P w K mg base (L2N.CX P w) 3 f fd ["values"] (spChkV K CP) := by
  have G : FnOk P w K mg base CX0 1 fV fdV ["number"] spIsVal := ok_isVal FV mH
  have b : Binds K fdV ["number"] [] := FV.bindsN fun _ _ _ _ _ _ us hl => match us, hl with | [_], _ => rfl
  have GP : FnOk P w K mg base CX0 1 fP fdP ["self", "at"] (spInit1 K CP "at") := ok_initP FP T
  have bP : Binds K fdP ["self", "at"] [] := FP.bindsN fun _ _ _ _ _ _ us hl => match us, hl with | [_, _], _ => rfl
  obtain ⟨tM, mM⟩ := mM
  refine fokN F scChkV (fun vs H Q E h => ?_) (fun cdv A outer s H vs Q E hr h => ?_)
  · obtain ⟨a, ns, rfl, _⟩ := h
    rfl
  · obtain ⟨a, ns, rfl, hS, hz, k1, k2, k3⟩ := h
    refine ⟨_, pss_cons (ps_if (pt_cmpR op_gt (pe_callB call_len_seq (by rfl) mL PySem.boot_len (pa_cons (pv 0) pa_nil)) (pe_glob (v := .int 6) rfl mM ⟨_, rfl⟩) (nomark _))
        (pss_one (L2N.ps_raise rfl (L2N.takes_of rfl rfl rfl rfl) (pmkN T.oP T.iP T.tP GP hr bP pass0 (by rfl) T.gP (pa_cons (pe_glob (v := .int 6) rfl mM ⟨_, rfl⟩) pa_nil)))) pss_nil)
      (pss_one (ps_for (passes_of rfl) rfl (pi_enum (by rfl) mE (pa_cons (pv 0) pa_nil)) (pg_tup (by rfl) (pgs_cons (pg_name (i := 1) scChkV.nd rfl (.inl rfl)) (pgs_cons (pg_name (i := 2) scChkV.nd rfl (.inl rfl)) pgs_nil)))
        (pss_one (ps_if (pt_not (pt_val (pe_call G (hr.mono (by decide)) rfl gV FV.kp b .nil pass0 (pa_cons (pv 2) pa_nil))))
          (pss_one (L2N.ps_raise rfl (L2N.takes_of rfl rfl rfl rfl) (pmkN T.oP T.iP T.tP GP hr bP pass0 (by rfl) T.gP (pa_cons (pv 1) pa_nil)))) pss_nil)))), ?_⟩
    refine ⟨_, rfl, a, _, rfl, .inl hS, _, _, rfl, rfl, _, rfl, ?_⟩
    refine ite2 (fun hl => ?_) (fun hl => ?_)
    · have h6 : 6 < ns.length := by
        have := of_decide_eq_true hl
        rw [List.length_map] at this
        omega
      exact raise1 (small_log (by decide)) (k1 h6)
    · have h6 : ns.length ≤ 6 := by
        have q : ¬ (6 < (((ns.map V.int).length : Nat) : Int)) := fun z => hl (decide_eq_true z)
        rw [List.length_map] at q
        omega
      refine ⟨_, rfl, a, _, rfl, hS, for_it walk_enum (fun i σ H' => Same H H' ∧ (∃ u v : Option V, σ = [some (.ref a), u, v]) ∧ ∀ j, j < i → ∀ y, ns[j]? = some y → valB y = true) ⟨.refl H, ⟨none, none, rfl⟩, fun j hj => absurd hj (Nat.not_lt_zero _)⟩ (fun i σ H' _ z => z.1.seq hS) ?_ ?_⟩
      · rintro i x σ H1 H2 hi ⟨s1, ⟨u, v, rfl⟩, before⟩ ⟨t, x1, x2, rfl, nt, rfl, e1, e2⟩
        have e1' : V.int (i : Nat) = x1 := Option.some.inj e1
        subst e1'
        rw [List.length_map] at hi
        have e3 : x2 = V.int ns[i] := by
          have e4 : (ns.map V.int)[i]? = some x2 := e2
          rw [List.getElem?_map, List.getElem?_eq_getElem hi] at e4
          exact (Option.some.inj e4).symm
        subst e3
        have s2 : Same H (upd H1 t (.tup [.int (i : Nat), .int ns[i]])) := s1.trans (same_upd nt)
        refine ⟨t, _, rfl, SqT.of upd_same, rfl, _, _, rfl, _, _, rfl, rfl, _, rfl, _, rfl, _, rfl, ?_⟩
        refine ite2 (fun hb => ?_) (fun hb => ?_)
        · have hv : valB ns[i] = false := by simpa using hb
          refine ⟨_, rfl, raise1 (small_log (by omega)) fun d H' s3 e => k2 h6 i (firstNot_of (List.getElem?_eq_getElem hi) hv before) d H' (s2.trans s3) e⟩
        · have hv : valB ns[i] = true := by simpa using hb
          refine ⟨s2, ⟨_, _, rfl⟩, fun j hj y hy => ?_⟩
          by_cases hji : j = i
          · subst hji
            rw [List.getElem?_eq_getElem hi] at hy
            rw [← Option.some.inj hy]
            exact hv
          · exact before j (by omega) y hy
      · rintro σ H1 ⟨s1, ⟨u, v, rfl⟩, before⟩
        refine k3 h6 (firstNot_all fun x hx => ?_) H1 s1
        obtain ⟨j, hj, e⟩ := List.mem_iff_getElem.mp hx
        exact before j (by rw [List.length_map]; exact hj) x (by rw [List.getElem?_eq_getElem hj, e])
end
end Sk


namespace Sk
open PySem PySem.Spec PyProof.Rows L2
def numV : Option Nat → V
  | none => .non
  | some i => .int (i : Int)
def spFirst (K : PySem.W.Frag) : Sp := fun vs H Q _ => ∃ (a : Addr) (ts : List Addr) (rs : List Row), vs = [.ref a] ∧ SqL K H a (ts.map V.ref) ∧ Rows K H ts rs ∧ (∀ r ∈ rs, Lay r) ∧ ∀ H', Same H H' → Q (numV (firstNot okRow rs)) H'
def spDo (K : PySem.W.Frag) : Sp := fun vs H Q _ => ∃ (p t : Addr) (pile : List Int) (d : Deed), vs = [.ref p, .ref t] ∧ H p = some (.lst (pile.map V.int)) ∧ SqT K H t (rowV d.row) ∧ pile.length ≤ 10000 ∧
  ∀ H', But p H H' → H' p = some (.lst ((act pile d).2.map V.int)) → Q (act pile d).1 H'
/-- what serial promises -/
def spSerial (K : PySem.W.Frag) (CP CD : Addr) : Sp := fun vs H Q E => ∃ (a b : Addr) (ns : List Int) (ts : List Addr) (rs : List Row), vs = [.ref a, .ref b] ∧ SqL K H a (ns.map V.int) ∧ ns.length ≤ 1000 ∧ SqL K H b (ts.map V.ref) ∧ Rows K H ts rs ∧ ts.length ≤ 1000 ∧ (∀ r ∈ rs, Lay r) ∧
  (6 < ns.length → Wants E H CP [("at", .int 6)]) ∧ (ns.length ≤ 6 → ∀ i : Nat, firstNot valB ns = some i → Wants E H CP [("at", .int (i : Int))]) ∧
  (ns.length ≤ 6 → firstNot valB ns = none → ∀ i : Nat, firstNot okRow rs = some i → Wants E H CD [("number", .int (i : Int)), ("hand", .int 0)]) ∧
  (ns.length ≤ 6 → firstNot valB ns = none → ∀ ds : List Deed, rs = ds.map Deed.row → (∀ d ∈ ds, d.fit) → ∀ (t A B : Addr) (H' : Hp), Same H H' → H A = none → H B = none → A ≠ B → H' t = some (.tup [.ref A, .ref B]) → H' A = some (.lst (acts ns ds).1) →
    H' B = some (.lst ((acts ns ds).2.map V.int)) → Q (.ref t) H')
theorem deeds_of : ∀ {rs : List Row}, (∀ r ∈ rs, okRow r = true) → ∃ ds : List Deed, rs = ds.map Deed.row ∧ ∀ d ∈ ds, d.fit
  | [], _ => ⟨[], rfl, fun d h => by cases h⟩
  | r :: rs, h => by
    obtain ⟨d, e, f⟩ := ok_deed (h r List.mem_cons_self)
    obtain ⟨ds, e2, f2⟩ := deeds_of fun x hx => h x (List.mem_cons_of_mem _ hx)
    refine ⟨d :: ds, by rw [e, e2]; rfl, fun x hx => ?_⟩
    rcases List.mem_cons.mp hx with q | q
    · rw [q]; exact f
    · exact f2 x q
section
variable {P : Program} {w : World} {K : PySem.W.Frag} {mg : Str → Option Value} {base : Heap} {f : Addr} {fd : FuncData}
theorem scFirst : FnScope ["deeds", "number", "deed"] ["deeds"] (defScope sFirst) := ⟨rfl, rfl, rfl, by decide +kernel, rfl, by decide +kernel, by decide +kernel⟩
theorem ok_first {fI fV pop : Addr} {fdI fdV : FuncData} (F : FnP K "first_bad_deed" "first_bad_deed" sFirst f fd) (FI : FnP K "is_deed" "is_deed" sIsDeed fI fdI) (gI : mg "is_deed" = some (.ref fI)) (FV : FnP K "is_value" "is_value" sIsVal fV fdV) (gV : mg "is_value" = some (.ref fV))
    (mH : ∃ t, mg "HIGHEST_VALUE" = some (.int 99 t)) (TP : TxPop K mg pop) (mL : mg "len" = none) (mE : mg "enumerate" = none) : FnOk P w K mg base CX0 3 f fd ["deeds"] (spFirst K) := by
  have G : FnOk P w K mg base CX0 2 fI fdI ["deed"] (spIsDeed K) := ok_isDeed FI FV gV mH TP mL
  have b : Binds K fdI ["deed"] [] := FI.bindsN fun _ _ _ _ _ _ us hl => match us, hl with | [_], _ => rfl
  refine fok F scFirst (fun vs H Q E h => ?_) (fun cdv A outer s H vs Q E hr h => ?_)
  · obtain ⟨a, ts, rs, rfl, _⟩ := h
    rfl
  · obtain ⟨a, ts, rs, rfl, hS, hR, hL, k⟩ := h
    refine ⟨_, pss_cons (ps_for PassesOwn.never rfl (pi_enum (by rfl) mE (pa_cons (pv 0) pa_nil)) (pg_tup (by rfl) (pgs_cons (pg_name (i := 1) scFirst.nd rfl (.inl rfl)) (pgs_cons (pg_name (i := 2) scFirst.nd rfl (.inl rfl)) pgs_nil)))
        (pss_one (ps_if (pt_not (pt_val (pe_call G hr rfl gI FI.kp b .nil pass0 (pa_cons (pv 2) pa_nil)))) (pss_one (ps_ret (pv 1))) pss_nil)))
      (pss_one (ps_ret pe_non)), ?_⟩
    have hlen := Rows.len hR
    refine ⟨_, rfl, a, _, rfl, hS, for_it walk_enum (fun i σ H' => Same H H' ∧ (∃ u v : Option V, σ = [some (.ref a), u, v]) ∧ ∀ j, j < i → ∀ y, rs[j]? = some y → okRow y = true) ⟨.refl H, ⟨none, none, rfl⟩, fun j hj => absurd hj (Nat.not_lt_zero _)⟩ (fun i σ H' _ z => z.1.seq hS) ?_ ?_⟩
    · rintro i x σ H1 H2 hi ⟨s1, ⟨u, v, rfl⟩, before⟩ ⟨t, x1, x2, rfl, nt, rfl, e1, e2⟩
      have e1' : V.int (i : Nat) = x1 := Option.some.inj e1
      subst e1'
      rw [List.length_map] at hi
      have e3 : x2 = V.ref ts[i] := by
        have e4 : (ts.map V.ref)[i]? = some x2 := e2
        rw [List.getElem?_map, List.getElem?_eq_getElem hi] at e4
        exact (Option.some.inj e4).symm
      subst e3
      have s2 : Same H (upd H1 t (.tup [.int (i : Nat), .ref ts[i]])) := s1.trans (same_upd nt)
      obtain ⟨r, er, hr0⟩ := hR.at_ (List.getElem?_eq_getElem hi)
      refine ⟨t, _, rfl, SqT.of upd_same, rfl, _, _, rfl, _, _, rfl, rfl, _, rfl, _, r, rfl, same_tup s2 hr0, hL _ (List.mem_of_getElem? er), _, rfl, ?_⟩
      refine ite2 (fun hb => ?_) (fun hb => ?_)
      · have hv : okRow r = false := by simpa using hb
        have e : firstNot okRow rs = some i := firstNot_of er hv before
        rw [e] at k
        exact ⟨_, rfl, k _ s2⟩
      · have hv : okRow r = true := by simpa using hb
        refine ⟨s2, ⟨_, _, rfl⟩, fun j hj y hy => ?_⟩
        by_cases hji : j = i
        · subst hji
          rw [er] at hy
          rw [← Option.some.inj hy]
          exact hv
        · exact before j (by omega) y hy
    · rintro σ H1 ⟨s1, ⟨u, v, rfl⟩, before⟩
      have e : firstNot okRow rs = none := firstNot_all fun x hx => by
        obtain ⟨j, hj, e⟩ := List.mem_iff_getElem.mp hx
        exact before j (by rw [List.length_map, hlen]; exact hj) x (by rw [List.getElem?_eq_getElem hj, e])
      rw [e] at k
      exact k H1 s1
end
end Sk


/-! The checks of what is handed in, where nothing is refused. -/
namespace Sk
open PySem PySem.Spec PyProof.Rows L2
structure TxK (K : PySem.W.Frag) (mg : Str → Option Value) : Prop where
  is_value : DefAt K mg "is_value" sIsVal
  is_deed : DefAt K mg "is_deed" sIsDeed
  check_values : DefAt K mg "check_values" sChkV
  first_bad_deed : DefAt K mg "first_bad_deed" sFirst
  check_programs : DefAt K mg "check_programs" s_check_programs
  are_rising_hands : DefAt K mg "are_rising_hands" s_are_rising_hands
  is_rule : DefAt K mg "is_rule" s_is_rule
  check_pile_and_programs : DefAt K mg "check_pile_and_programs" s_check_pile_and_programs
  check_all : DefAt K mg "check_all" s_check_all
  HIGHEST_VALUE : IntG mg "HIGHEST_VALUE" 99
  MOST_VALUES : IntG mg "MOST_VALUES" 6
  MOST_HANDS : IntG mg "MOST_HANDS" 3
  MOST_DEEDS : IntG mg "MOST_DEEDS" 4
  MOST_COUNTS : IntG mg "MOST_COUNTS" 15
  pop : ∃ p, TxPop K mg p
  len : mg "len" = none
  enumerate : mg "enumerate" = none
  isinstance : mg "isinstance" = none
  int : mg "int" = none
  tuple : mg "tuple" = none
/-- programs that can be -/
def Fit (ps : List (List Deed)) : Prop := 1 ≤ ps.length ∧ ps.length ≤ 3 ∧ ∀ ds ∈ ps, ds.length ≤ 4 ∧ ∀ d ∈ ds, d.fit
def FitV (xs : List Int) : Prop := xs.length ≤ 6 ∧ ∀ x ∈ xs, 0 ≤ x ∧ x < 100
def spChk (K : PySem.W.Frag) : Sp := fun vs H Q _ => ∃ (a : Addr) (xs : List Int), vs = [.ref a] ∧ SqL K H a (xs.map V.int) ∧ FitV xs ∧ ∀ H', Same H H' → Q .non H'
def spChkP (K : PySem.W.Frag) : Sp := fun vs H Q _ => ∃ (p : Addr) (ps : List (List Deed)), vs = [.ref p] ∧ Progs K H p ps ∧ Fit ps ∧ ∀ H', Same H H' → Q .non H'
def spChkVP (K : PySem.W.Frag) : Sp := fun vs H Q _ => ∃ (a p : Addr) (xs : List Int) (ps : List (List Deed)), vs = [.ref a, .ref p] ∧ SqL K H a (xs.map V.int) ∧ FitV xs ∧ Progs K H p ps ∧ Fit ps ∧ ∀ H', Same H H' → Q .non H'
def spChkA (K : PySem.W.Frag) : Sp := fun vs H Q _ => ∃ (a p rl : Addr) (xs : List Int) (ps : List (List Deed)) (r : Rule), vs = [.ref a, .ref p, .ref rl] ∧ SqL K H a (xs.map V.int) ∧ FitV xs ∧ Progs K H p ps ∧ Fit ps ∧ RuleAt H rl r ∧ r.fit ps.length ∧ ∀ H', Same H H' → Q .non H'
def spRising (K : PySem.W.Frag) : Sp := fun vs H Q _ => ∃ (u : Addr) (hs : List Nat) (n : Nat), vs = [.ref u, .int (n : Int)] ∧ H u = some (.tup (vN hs)) ∧ hs.Pairwise (· < ·) ∧ (∀ h ∈ hs, h < n) ∧ Q (.bl true) H
def spIsRule (K : PySem.W.Frag) : Sp := fun vs H Q _ => ∃ (rl : Addr) (r : Rule) (n : Nat), vs = [.ref rl, .int (n : Int)] ∧ RuleAt H rl r ∧ r.fit n ∧ ∀ H', Same H H' → Q (.bl true) H'
theorem val_of {x : Int} (h : 0 ≤ x ∧ x < 100) : valB x = true := by
  unfold valB
  rw [decide_eq_true h.1, decide_eq_true (by omega)]
  rfl
section
variable {P : Program} {w : World} {K : PySem.W.Frag} {mg : Str → Option Value} {base : Heap}
theorem cal_is_value (T : TxK K mg) : C8.Cal P w K mg base 1 "is_value" spIsVal [] := by
  obtain ⟨f, fd, F, g⟩ := T.is_value.ex
  exact cal_of F g (F.bindsN fun _ _ _ _ _ _ us hl => match us, hl with | [_], _ => rfl) (ok_isVal F T.HIGHEST_VALUE)
theorem cal_first_bad_deed (T : TxK K mg) : C8.Cal P w K mg base 3 "first_bad_deed" (spFirst K) [] := by
  obtain ⟨f, fd, F, g⟩ := T.first_bad_deed.ex
  obtain ⟨f1, fd1, F1, g1⟩ := T.is_value.ex
  obtain ⟨f2, fd2, F2, g2⟩ := T.is_deed.ex
  obtain ⟨p, TP⟩ := T.pop
  exact cal_of F g (F.bindsN fun _ _ _ _ _ _ us hl => match us, hl with | [_], _ => rfl) (ok_first F F2 g2 F1 g1 T.HIGHEST_VALUE TP T.len T.enumerate)
theorem cal_check_values (T : TxK K mg) : C8.Cal P w K mg base 2 "check_values" (spChk K) [] := by
  obtain ⟨f, fd, F, g⟩ := T.check_values.ex
  have C := T
  have c_is_value : C8.Cal P w K mg base 1 "is_value" spIsVal [] := cal_is_value T
  refine cal_of F g (F.bindsN fun _ _ _ _ _ _ us hl => match us, hl with | [_], _ => rfl) (fok F scChkV (fun vs H Q E h => ?_) (fun cdv A outer s H vs Q E hr h => ?_))
  · obtain ⟨a, xs, rfl, _⟩ := h
    rfl
  · obtain ⟨a, xs, rfl, hS, fv, fin⟩ := h
    refine ⟨_, (Evl.pss_cut
    (ps_if (pt_cmpR op_gt (pe_callB call_len_seq (by rfl) T.len PySem.boot_len (pa_cons (pv 0) pa_nil)) (pe_num (n := 6) rfl C.MOST_VALUES) (nomark _)) (pss_one (ps_no)) pss_nil) (pss_one
    (ps_for PassesOwn.never rfl (pi_enum (by rfl) T.enumerate (pa_cons (pv 0) pa_nil)) (pg_tup (by rfl) (pgs_cons (pg_name (i := 1) scChkV.nd rfl (.inl rfl)) (pgs_cons (pg_name (i := 2) scChkV.nd rfl (.inl rfl)) pgs_nil))) (pss_one (ps_if (pt_not (pt_val (C8.pe_c c_is_value hr (by decide) (by rfl) (pa_cons (pv 2) pa_nil)))) (pss_one (ps_no)) pss_nil))))), ?_⟩
    refine ⟨fun σ' H' => σ' = [some (.ref a), none, none] ∧ H' = H, ⟨_, rfl, a, _, rfl, .inl hS, _, _, rfl, rfl, _, rfl, ite2 (fun hl => ?_) (fun hl => ⟨rfl, rfl⟩)⟩, ?_⟩
    · have := of_decide_eq_true hl
      rw [List.length_map] at this
      have := fv.1
      omega
    · rintro σ' H' ⟨rfl, rfl⟩
      refine ⟨_, rfl, a, _, rfl, hS, for_it walk_enum (fun i σ H1 => Same H' H1 ∧ ∃ u v : Option V, σ = [some (.ref a), u, v]) ⟨.refl H', none, none, rfl⟩ (fun i σ H1 _ z => z.1.seq hS) ?_ ?_⟩
      · rintro i x σ H1 H2 hi ⟨s1, u, v, rfl⟩ ⟨t, x1, x2, rfl, nt, rfl, e1, e2⟩
        rw [List.length_map] at hi
        have e3 : x2 = V.int xs[i] := by
          have e4 : (xs.map V.int)[i]? = some x2 := e2
          rw [List.getElem?_map, List.getElem?_eq_getElem hi] at e4
          exact (Option.some.inj e4).symm
        subst e3
        refine ⟨t, _, rfl, SqT.of upd_same, rfl, _, _, rfl, _, _, rfl, rfl, _, rfl, _, rfl, _, rfl, ?_⟩
        rw [val_of (fv.2 _ (List.getElem_mem hi))]
        exact iteF ⟨s1.trans (same_upd nt), _, _, rfl⟩
      · rintro σ H1 ⟨s1, u, v, rfl⟩
        exact fin H1 s1
end
end Sk


namespace Sk
open PySem PySem.Spec PyProof.Rows L2
section
variable {P : Program} {w : World} {K : PySem.W.Frag} {mg : Str → Option Value} {base : Heap}
theorem rows_ok {ds : List Deed} (h : ∀ d ∈ ds, d.fit) : firstNot okRow (ds.map Deed.row) = none := firstNot_all fun r hr => by
  obtain ⟨d, hd, e⟩ := List.mem_map.mp hr
  rw [← e]
  exact deed_ok (h d hd)
theorem scChkP : FnScope ["programs", "hand", "deeds", "bad"] ["programs"] (defScope s_check_programs) := ⟨rfl, rfl, rfl, by decide +kernel, rfl, by decide +kernel, by decide +kernel⟩
theorem cal_check_programs (T : TxK K mg) : C8.Cal P w K mg base 4 "check_programs" (spChkP K) [] := by
  obtain ⟨f, fd, F, g⟩ := T.check_programs.ex
  have C := T
  have c_first_bad_deed : C8.Cal P w K mg base 3 "first_bad_deed" (spFirst K) [] := cal_first_bad_deed T
  refine cal_of F g (F.bindsN fun _ _ _ _ _ _ us hl => match us, hl with | [_], _ => rfl) (fok F scChkP (fun vs H Q E h => ?_) (fun cdv A outer s H vs Q E hr h => ?_))
  · obtain ⟨p, ps, rfl, _⟩ := h
    rfl
  · obtain ⟨p, ps, rfl, pg, ft, fin⟩ := h
    refine ⟨_, (Evl.pss_cut
    (ps_if (pt_not (pt_chain op_le op_le pe_int (pe_callB call_len_seq (by rfl) T.len PySem.boot_len (pa_cons (pv 0) pa_nil)) (pe_num (n := 3) rfl C.MOST_HANDS))) (pss_one (ps_no)) pss_nil) (pss_one
    (ps_for PassesOwn.never rfl (pi_enum (by rfl) T.enumerate (pa_cons (pv 0) pa_nil)) (pg_tup (by rfl) (pgs_cons (pg_name (i := 1) scChkP.nd rfl (.inl rfl)) (pgs_cons (pg_name (i := 2) scChkP.nd rfl (.inl rfl)) pgs_nil))) (Evl.pss_cut
    (ps_if (pt_cmpR op_gt (pe_callB call_len_seq (by rfl) T.len PySem.boot_len (pa_cons (pv 2) pa_nil)) (pe_num (n := 4) rfl C.MOST_DEEDS) (nomark _)) (pss_one (ps_no)) pss_nil) (pss_cons
    (ps_set (i := 3) scChkP.nd rfl (.inl rfl) (C8.pe_c c_first_bad_deed hr (by decide) (by rfl) (pa_cons (pv 2) pa_nil))) (pss_one
    (ps_if (pt_cmpR op_notN (pv 3) pe_non (nomark _)) (pss_one (ps_no)) pss_nil))))))), ?_⟩
    obtain ⟨ls, p1, p2⟩ := id pg
    obtain ⟨f1, f2, f3⟩ := ft
    have ll := paired_len p2
    refine ⟨fun σ' H' => σ' = [some (.ref p), none, none, none] ∧ H' = H, ⟨_, rfl, p, _, rfl, .inl (SqL.of p1), _, _, rfl, rfl, _, rfl, ite2 (fun hl => ⟨_, _, rfl, rfl, _, rfl, ite2 (fun hl => ?_) (fun hl => ⟨rfl, rfl⟩)⟩) (fun hl => ?_)⟩, ?_⟩
    · have : ¬ ((((ls.map V.ref).length : Nat) : Int) ≤ 3) := by simpa using hl
      rw [List.length_map] at this
      omega
    · refine absurd (decide_eq_true ?_) hl
      rw [List.length_map]
      omega
    · rintro σ' H' ⟨rfl, rfl⟩
      refine ⟨_, rfl, p, _, rfl, SqL.of p1, for_it walk_enum (fun i σ H1 => Same H' H1 ∧ ∃ u v x : Option V, σ = [some (.ref p), u, v, x]) ⟨.refl H', none, none, none, rfl⟩ (fun i σ H1 _ z => SqL.of (z.1 _ _ p1)) ?_ ?_⟩
      · rintro i x σ H1 H2 hi ⟨s1, u, v, b, rfl⟩ ⟨t, x1, x2, rfl, nt, rfl, e1, e2⟩
        rw [List.length_map] at hi
        have hi2 : i < ps.length := by omega
        obtain ⟨l, el, ts, d1, d2⟩ := paired_get p2 (List.getElem?_eq_getElem hi2)
        have e3 : x2 = V.ref l := by
          have e4 : (ls.map V.ref)[i]? = some x2 := e2
          rw [List.getElem?_map, el] at e4
          exact (Option.some.inj e4).symm
        subst e3
        have s2 := s1.trans (same_upd (o := .tup [x1, V.ref l]) nt)
        obtain ⟨g1, g2⟩ := f3 _ (List.getElem_mem hi2)
        have dl := d2.len
        rw [List.length_map] at dl
        refine ⟨t, _, rfl, SqT.of upd_same, rfl, _, _, rfl, _, _, rfl, rfl, ?_⟩
        refine ⟨fun σ' H3 => σ' = [some (.ref p), some x1, some (.ref l), b] ∧ H3 = _, ⟨_, rfl, l, _, rfl, .inl (SqL.of (s2 _ _ d1)), _, _, rfl, rfl, _, rfl, ite2 (fun hl => ?_) (fun hl => ⟨rfl, rfl⟩)⟩, ?_⟩
        · have := of_decide_eq_true hl
          rw [List.length_map] at this
          omega
        · rintro σ' H3 ⟨rfl, rfl⟩
          refine ⟨_, rfl, l, ts, ps[i].map Deed.row, rfl, SqL.of (s2 _ _ d1), d2.mono fun t xs z => same_tup s2 z, fun r hr => ?_, fun H4 s4 => ?_⟩
          · obtain ⟨d, _, e⟩ := List.mem_map.mp hr
            rw [← e]
            exact deed_lay d
          · rw [rows_ok g2]
            exact ⟨_, rfl, rfl, _, rfl, iteF ⟨s2.trans s4, _, _, _, rfl⟩⟩
      · rintro σ H1 ⟨s1, u, v, x, rfl⟩
        exact fin H1 s1
theorem scRising : FnScope ["hands", "many", "lowest", "hand"] ["hands", "many"] (defScope s_are_rising_hands) := ⟨rfl, rfl, rfl, by decide +kernel, rfl, by decide +kernel, by decide +kernel⟩
theorem cal_are_rising_hands (T : TxK K mg) : C8.Cal P w K mg base 1 "are_rising_hands" (spRising K) [] := by
  obtain ⟨f, fd, F, g⟩ := T.are_rising_hands.ex
  refine cal_of F g (F.bindsN fun _ _ _ _ _ _ us hl => match us, hl with | [_, _], _ => rfl) (fok F scRising (fun vs H Q E h => ?_) (fun cdv A outer s H vs Q E hr h => ?_))
  · obtain ⟨u, hs, n, rfl, _⟩ := h
    rfl
  · obtain ⟨u, hs, n, rfl, eu, hp, hb, fin⟩ := h
    refine ⟨_, (pss_cons
    (ps_set (i := 2) scRising.nd rfl (.inl rfl) pe_int) (pss_cons
    (ps_for PassesOwn.never rfl (pi_tup (pv 0)) (pg_name (i := 3) scRising.nd rfl (.inl rfl)) (pss_cons
    (ps_if (pt_not (pt_chain op_le op_lt (pv 2) (pv 3) (pv 1))) (pss_one (ps_ret pe_bl)) pss_nil) (pss_one
    (ps_set (i := 2) scRising.nd rfl (.inl rfl) (pe_op op_add (pv 3) pe_int))))) (pss_one
    (ps_ret pe_bl)))), ?_⟩
    refine ⟨_, rfl, u, rfl, ⟨_, SqT.of eu⟩, for_tup (K := K) (a := u) (xs := vN hs) (fun i σ H1 => H1 = H ∧ ∃ (lo : Nat) (v : Option V), σ = [some (.ref u), some (.int (n : Int)), some (.int (lo : Int)), v] ∧ ∀ j, i ≤ j → ∀ h, hs[j]? = some h → lo ≤ h) ⟨rfl, 0, none, rfl, fun _ _ _ _ => Nat.zero_le _⟩ (fun i σ H1 _ z => by rw [z.1]; exact SqT.of eu) ?_ ?_⟩
    · rintro i x σ H1 hx ⟨rfl, lo, v, rfl, hlo⟩
      have hi : i < hs.length := by
        have := (List.getElem?_eq_some_iff.mp hx).1
        rw [List.length_map] at this
        exact this
      have ex : x = V.int (hs[i] : Nat) := by
        unfold vN at hx
        rw [List.getElem?_map, List.getElem?_eq_getElem hi] at hx
        exact (Option.some.inj hx).symm
      subst ex
      have l1 := hlo i (Nat.le_refl _) _ (List.getElem?_eq_getElem hi)
      have l2 := hb _ (List.getElem_mem hi)
      refine ⟨_, rfl, _, rfl, _, _, rfl, rfl, _, rfl, ite2 (fun q => ⟨_, rfl, _, _, rfl, rfl, _, rfl, ite2 (fun q => ?_) (fun q => ?_)⟩) (fun q => ?_)⟩
      · have : ¬ (((hs[i] : Nat) : Int) < (n : Int)) := by simpa using q
        omega
      · refine ⟨_, rfl, _, _, rfl, rfl, rfl, hs[i] + 1, _, rfl, fun j hj h eh => ?_⟩
        obtain ⟨jl, ej⟩ := List.getElem?_eq_some_iff.mp eh
        have := List.pairwise_iff_getElem.mp hp i j hi jl (by omega)
        omega
      · exact absurd (decide_eq_true (by omega)) q
    · rintro σ H1 ⟨rfl, lo, v, rfl, _⟩
      exact fin
theorem scIsRule : FnScope ["rule", "many", "word", "told"] ["rule", "many"] (defScope s_is_rule) := ⟨rfl, rfl, rfl, by decide +kernel, rfl, by decide +kernel, by decide +kernel⟩
theorem cal_is_rule (T : TxK K mg) : C8.Cal P w K mg base 2 "is_rule" (spIsRule K) [] := by
  obtain ⟨f, fd, F, g⟩ := T.is_rule.ex
  have C := T
  have c_are_rising_hands : C8.Cal P w K mg base 1 "are_rising_hands" (spRising K) [] := cal_are_rising_hands T
  refine cal_of F g (F.bindsN fun _ _ _ _ _ _ us hl => match us, hl with | [_, _], _ => rfl) (fok F scIsRule (fun vs H Q E h => ?_) (fun cdv A outer s H vs Q E hr h => ?_))
  · obtain ⟨rl, r, n, rfl, _⟩ := h
    rfl
  · obtain ⟨rl, r, n, rfl, ru, rf, fin⟩ := h
    refine ⟨_, (Evl.pss_cut
    (ps_if (pt_cmpR (op_eqD hr.units) (pv 0) (pe_tup (pa_cons pe_str pa_nil)) (nomark _)) (pss_one (ps_ret pe_bl)) pss_nil) (Evl.pss_cut
    (ps_if (pt_cmpR op_ne (pe_callB call_len_seq (by rfl) T.len PySem.boot_len (pa_cons (pv 0) pa_nil)) pe_int (nomark _)) (pss_one (ps_ret pe_bl)) pss_nil) (pss_cons
    (ps_asg (pv 0) (pg_tup (by rfl) (pgs_cons (pg_name (i := 2) scIsRule.nd rfl (.inl rfl)) (pgs_cons (pg_name (i := 3) scIsRule.nd rfl (.inl rfl)) pgs_nil)))) (Evl.pss_cut
    (ps_if (pt_cmpR op_eq (pv 2) pe_str (nomark _)) (pss_one (ps_ret (pe_and (pe_callB call_isi (by rfl) T.isinstance boot_isinstance (pa_cons (pv 3) (pa_cons (pe_bltn (v := .ty "int") (by rfl) T.int (by decide +kernel) rfl) pa_nil))) (pe_one (pe_chain op_le op_le pe_int (pv 3) (pe_num (n := 15) rfl C.MOST_COUNTS)))))) pss_nil) (pss_one
    (ps_ret (pe_and (pe_cmpR op_eq (pv 2) pe_str (nomark _)) (pe_and (pe_callB call_isi (by rfl) T.isinstance boot_isinstance (pa_cons (pv 3) (pa_cons (pe_bltn (v := .ty "tuple") (by rfl) T.tuple (by decide +kernel) rfl) pa_nil))) (pe_one (C8.pe_c c_are_rising_hands hr (by decide) (by rfl) (pa_cons (pv 3) (pa_cons (pv 1) pa_nil)))))))))))), ?_⟩
    have l1 : SeqAt.shaped (.tuple [.str sKeeps]) = true := by decide +kernel
    refine ⟨fun σ' H' => σ' = [some (.ref rl), some (.int (n : Int)), none, none] ∧ Same H H' ∧ r ≠ .keeps, ?c1, ?m1⟩
    case c1 =>
      refine ⟨_, rfl, by show 1 ≤ sizeLine; decide, fun t1 n1 => ?_⟩
      have s1 := same_upd (o := .tup [V.str sKeeps]) n1
      refine ⟨_, _, rule_dp (ru.same s1), .tup (SqT.of upd_same) (.cons (.str _) .nil), rule_lay r, l1, _, rfl, ?_⟩
      refine (show if PyData.eqv r.dat (.tuple [.str sKeeps]) = true then _ else _ from ?_)
      rw [rule_eqv]
      cases r with
      | keeps => exact iteT (fin _ s1)
      | counts m => exact iteF ⟨rfl, s1, fun z => by cases z⟩
      | marks hs => exact iteF ⟨rfl, s1, fun z => by cases z⟩
    case m1 =>
      rintro σ' H' ⟨rfl, s1, hk⟩
      have ru1 := ru.same s1
      cases r with
      | keeps => exact absurd rfl hk
      | counts m =>
        have e : H' rl = some (.tup [.str sCounts, .int (m : Int)]) := ru1
        obtain ⟨m1, m2⟩ := rf
        refine ⟨fun σ' H2 => σ' = [some (.ref rl), some (.int (n : Int)), none, none] ∧ H2 = H', ⟨_, rfl, rl, _, rfl, .inr (SqT.of e), rfl, _, rfl, iteF ⟨rfl, rfl⟩⟩, ?_⟩
        rintro σ' H2 ⟨rfl, rfl⟩
        refine ⟨_, rfl, rl, _, rfl, SqT.of e, rfl, _, _, rfl, _, _, rfl, rfl, ?_⟩
        refine ⟨fun _ _ => False, ⟨_, rfl, rfl, _, rfl, iteT ?_⟩, fun _ _ z => z.elim⟩
        have tx : TyX K H2 (V.int (m : Int)) (.type "int") := .base (.int _)
        refine ⟨_, rfl, _, _, _, _, _, rfl, .ty _, tx, kit_ty (r := true) (by decide +kernel), _, rfl, iteT ?_⟩
        refine ⟨_, rfl, _, _, rfl, rfl, _, rfl, ite2 (fun q => ⟨_, _, rfl, rfl, ?_⟩) (fun q => absurd (decide_eq_true (by omega)) q)⟩
        have q2 := fin H2 s1
        rw [← show decide ((m : Int) ≤ 15) = true from decide_eq_true (by omega)] at q2
        exact q2
      | marks hs =>
        obtain ⟨u, e, eu⟩ := id ru1
        obtain ⟨m1, m2⟩ := rf
        refine ⟨fun σ' H2 => σ' = [some (.ref rl), some (.int (n : Int)), none, none] ∧ H2 = H', ⟨_, rfl, rl, _, rfl, .inr (SqT.of e), rfl, _, rfl, iteF ⟨rfl, rfl⟩⟩, ?_⟩
        rintro σ' H2 ⟨rfl, rfl⟩
        refine ⟨_, rfl, rl, _, rfl, SqT.of e, rfl, _, _, rfl, _, _, rfl, rfl, ?_⟩
        refine ⟨fun σ' H3 => σ' = [some (.ref rl), some (.int (n : Int)), some (.str sMarks), some (.ref u)] ∧ H3 = H2, ⟨_, rfl, rfl, _, rfl, iteF ⟨rfl, rfl⟩⟩, ?_⟩
        rintro σ' H3 ⟨rfl, rfl⟩
        have tx : TyX K H3 (V.ref u) (.type "tuple") := sqt_ty (SqT.of eu)
        exact ⟨_, rfl, rfl, _, rfl, iteT ⟨_, rfl, _, _, _, _, _, rfl, .ty _, tx, kit_ty (r := true) (by decide +kernel), _, rfl, iteT ⟨_, rfl, _, rfl, u, hs, n, rfl, eu, m1, m2, fin H3 s1⟩⟩⟩
theorem scChkVP : FnScope ["values", "programs"] ["values", "programs"] (defScope s_check_pile_and_programs) := ⟨rfl, rfl, rfl, by decide +kernel, rfl, by decide +kernel, by decide +kernel⟩
theorem cal_check_pile_and_programs (T : TxK K mg) : C8.Cal P w K mg base 5 "check_pile_and_programs" (spChkVP K) [] := by
  obtain ⟨f, fd, F, g⟩ := T.check_pile_and_programs.ex
  have c_check_values : C8.Cal P w K mg base 2 "check_values" (spChk K) [] := cal_check_values T
  have c_check_programs : C8.Cal P w K mg base 4 "check_programs" (spChkP K) [] := cal_check_programs T
  refine cal_of F g (F.bindsN fun _ _ _ _ _ _ us hl => match us, hl with | [_, _], _ => rfl) (fok F scChkVP (fun vs H Q E h => ?_) (fun cdv A outer s H vs Q E hr h => ?_))
  · obtain ⟨a, p, xs, ps, rfl, _⟩ := h
    rfl
  · obtain ⟨a, p, xs, ps, rfl, hS, fv, pg, ft, fin⟩ := h
    refine ⟨_, (pss_cons
    (ps_expr (C8.pe_c c_check_values hr (by decide) (by rfl) (pa_cons (pv 0) pa_nil))) (pss_one
    (ps_expr (C8.pe_c c_check_programs hr (by decide) (by rfl) (pa_cons (pv 1) pa_nil))))), ?_⟩
    exact ⟨_, rfl, a, xs, rfl, hS, fv, fun H1 s1 => ⟨_, rfl, p, ps, rfl, pg.same s1, ft, fun H2 s2 => fin H2 (s1.trans s2)⟩⟩
theorem scChkA : FnScope ["values", "programs", "rule"] ["values", "programs", "rule"] (defScope s_check_all) := ⟨rfl, rfl, rfl, by decide +kernel, rfl, by decide +kernel, by decide +kernel⟩
theorem cal_check_all (T : TxK K mg) : C8.Cal P w K mg base 6 "check_all" (spChkA K) [] := by
  obtain ⟨f, fd, F, g⟩ := T.check_all.ex
  have c_check_pile_and_programs : C8.Cal P w K mg base 5 "check_pile_and_programs" (spChkVP K) [] := cal_check_pile_and_programs T
  have c_is_rule : C8.Cal P w K mg base 2 "is_rule" (spIsRule K) [] := cal_is_rule T
  refine cal_of F g (F.bindsN fun _ _ _ _ _ _ us hl => match us, hl with | [_, _, _], _ => rfl) (fok F scChkA (fun vs H Q E h => ?_) (fun cdv A outer s H vs Q E hr h => ?_))
  · obtain ⟨a, p, rl, xs, ps, r, rfl, _⟩ := h
    rfl
  · obtain ⟨a, p, rl, xs, ps, r, rfl, hS, fv, pg, ft, ru, rf, fin⟩ := h
    refine ⟨_, (pss_cons
    (ps_expr (C8.pe_c c_check_pile_and_programs hr (by decide) (by rfl) (pa_cons (pv 0) (pa_cons (pv 1) pa_nil)))) (pss_one
    (ps_if (pt_not (pt_val (C8.pe_c c_is_rule hr (by decide) (by rfl) (pa_cons (pv 2) (pa_cons (pe_callB call_len_seq (by rfl) T.len PySem.boot_len (pa_cons (pv 1) pa_nil)) pa_nil))))) (pss_one (ps_no)) pss_nil))), ?_⟩
    refine ⟨_, rfl, _, rfl, a, p, xs, ps, rfl, hS, fv, pg, ft, fun H1 s1 => ?_⟩
    obtain ⟨ls, p1, p2⟩ := pg.same s1
    refine ⟨_, rfl, _, rfl, p, _, rfl, .inl (SqL.of p1), rl, r, ps.length, ?_, ru.same s1, rf, fun H2 s2 => ⟨_, rfl, iteF (fin H2 (s1.trans s2))⟩⟩
    rw [List.length_map, paired_len p2]
    rfl
end
end Sk


/-! The package's machine: a step of it. -/
namespace Sk
open PySem PySem.Spec PyProof.Rows L2
/-- a method of the class at C -/
structure MethAt (K : PySem.W.Frag) (C : Addr) (m q : Str) (st : Stmt) : Prop where
  ex : ∃ f fd, FnP K m q st f fd ∧ Meth K C m f
structure TxM (K : PySem.W.Frag) (mg : Str → Option Value) (C : Addr) : Prop where
  g : mg "Machine" = some (.ref C)
  cl : Cls K C
  nP : NoAttr K C "programs"
  nR : NoAttr K C "rule"
  nS : NoAttr K C "state"
  nA : NoAttr K C "answered"
  nD : NoAttr K C "decided"
  nH : NoAttr K C "had_stale"
  init : ∃ f fd, FnP K "__init__" "Machine.__init__" s_Machine_init f fd ∧ Mk K C f
  check_hand : MethAt K C "check_hand" "Machine.check_hand" s_Machine_check_hand
  turn : MethAt K C "turn" "Machine.turn" s_Machine_turn
  answers : MethAt K C "answers" "Machine.answers" s_Machine_answers
  order : MethAt K C "order" "Machine.order" s_Machine_order
  pile : MethAt K C "pile" "Machine.pile" s_Machine_pile
  pile_values : MethAt K C "pile_values" "Machine.pile_values" s_Machine_pile_values
  is_stale : MethAt K C "is_stale" "Machine.is_stale" s_Machine_is_stale
  is_done : MethAt K C "is_done" "Machine.is_done" s_Machine_is_done
  S : TxS K mg
  T : TxT K mg
  K : TxK K mg
  len : mg "len" = none
  list : mg "list" = none
  tuple : mg "tuple" = none
  zip : mg "zip" = none
  range : mg "range" = none
theorem met_of {P : Program} {w : World} {K : PySem.W.Frag} {mg : Str → Option Value} {base : Heap} {k : Nat} {C : Addr} {m q : Str} {st : Stmt} {f : Addr} {fd : FuncData} {ps : List Str} {sp : Sp} (F : FnP K m q st f fd) (cl : Cls K C) (M : Meth K C m f) (b : Binds K fd ps []) (ok : FnOk P w K mg base CX0 k f fd ps sp) : C8.Met P w K mg base k C m sp [] :=
  ⟨f, fd, ps, [], cl, M, ok, b, .nil⟩
def spCheckHand (K : PySem.W.Frag) (C : Addr) : Sp := fun vs H Q _ => ∃ (m dx P R S An De : Addr) (b : Bool) (i : Nat) (ls : List Addr), vs = [.ref m, .int (i : Int)] ∧ H m = some (.ins C dx (mFs P R S An De b)) ∧ H P = some (.tup (ls.map V.ref)) ∧ i < ls.length ∧ Q .non H
def spTurnM (K : PySem.W.Frag) (C : Addr) : Sp := fun vs H Q _ => ∃ (L : ML) (r : Rule) (n : Nat) (s : Mach) (i : Nat) (h : Hand), vs = [.ref L.m, .int (i : Int)] ∧ MacAt K H C r L s ∧ s.hands[i]? = some h ∧ Okm r n s ∧ n ≤ 50000 ∧ r.pos ∧
  ∀ t H', MacAt K H' C r L (turn r s i).2 → Kept2 L H H' → H' t = some (.tup (turn r s i).1.row) → Q (.ref t) H'
theorem own_m {L : ML} : L.m ∈ L.own := by simp [ML.own]
theorem own_De {L : ML} : L.De ∈ L.own := by simp [ML.own]
theorem own_qa {L : ML} {i : Nat} {q : Addr} (h : L.qa[i]? = some q) : q ∈ L.own := by simp [ML.own, List.mem_of_getElem? h]
theorem step_ok {r : Rule} {n i : Nat} {s : Mach} {h : Hand} (O : Okm r n s) (hn : n ≤ 50000) (hi : s.hands[i]? = some h) : StepOk s.ps h.ph h.deeds := by
  have hm := List.mem_of_getElem? hi
  obtain ⟨b1, b2, b3⟩ := O.bnd.hands h hm
  have ln := O.bnd.len
  have fw := O.bnd.few
  refine ⟨⟨?_, ?_, ?_, ?_⟩, ?_, fun v e => ?_, fun e hp => ?_, ?_, ?_⟩
  · show s.links.length ≤ 100000
    omega
  · show s.free.length ≤ 100000
    omega
  · show s.vals.length ≤ 100000
    omega
  · show (s.hands.map Hand.ph).length ≤ 1000
    rw [List.length_map]
    have := O.few
    omega
  · rw [ph_num]
    exact O.le h hm
  · rw [ph_num] at e
    show h.ph.cell ≤ s.links.length
    have : h.ph.cell ≤ h.cell := by
      unfold Hand.ph
      rw [e]
      repeat' split
      all_goals (dsimp only; omega)
    omega
  · rw [ph_num] at e
    show 1 ≤ h.ph.top ∧ h.ph.top ≤ s.links.length
    have bs := O.base.seen i h hi e
    unfold Hand.ph at hp ⊢
    rw [e] at hp ⊢
    dsimp only at hp ⊢
    cases hs : h.seen with
    | none =>
      rw [hs] at hp
      exact absurd rfl hp
    | some p =>
      obtain ⟨t, k⟩ := p
      dsimp only
      have t0 := bs t k hs
      have t1 := b2 t k hs
      by_cases hc : h.cell = 0
      · rw [if_neg (fun z => z hc)]
        repeat' split
        all_goals (dsimp only; omega)
      · rw [if_pos hc]
        dsimp only
        omega
  · exact ln.symm
  · exact O.bnd.free
theorem set_get {α : Type} {l : List α} {i : Nat} {x : α} (h : l[i]? = some x) : l.set i x = l := by
  obtain ⟨hl, e⟩ := List.getElem?_eq_some_iff.mp h
  rw [← e, List.set_getElem_self]
theorem PgT.at_ {K : PySem.W.Frag} {H : Hp} {p : Addr} {ps : List (List Deed)} (h : PgT K H p ps) : PgAt K H p ps := by
  obtain ⟨ls, h1, h2⟩ := h
  exact ⟨ls, .inr (SqT.of h1), Paired.mono2 (fun l ds z => by obtain ⟨ts, z1, z2⟩ := z; exact ⟨ts, .inr (SqT.of z1), z2⟩) h2⟩
section
variable {P : Program} {w : World} {K : PySem.W.Frag} {mg : Str → Option Value} {base : Heap} {Cm : Addr}
theorem scCheckHand : FnScope ["self", "hand"] ["self", "hand"] (defScope s_Machine_check_hand) := ⟨rfl, rfl, rfl, by decide +kernel, rfl, by decide +kernel, by decide +kernel⟩
theorem met_check_hand (T : TxM K mg Cm) : C8.Met P w K mg base 1 Cm "check_hand" (spCheckHand K Cm) [] := by
  obtain ⟨f, fd, F, M⟩ := T.check_hand.ex
  refine met_of F T.cl M (F.bindsN fun _ _ _ _ _ _ us hl => match us, hl with | [_, _], _ => rfl) (fok F scCheckHand (fun vs H Q E h => ?_) (fun cdv A outer s H vs Q E hr h => ?_))
  · obtain ⟨m, dx, P, R, S, An, De, b, i, ls, rfl, _⟩ := h
    rfl
  · obtain ⟨m, dx, P, R, S, An, De, b, i, ls, rfl, e1, e2, hi, fin⟩ := h
    refine ⟨_, (pss_one (ps_if (pt_not (pt_chain op_le op_lt pe_int (pv 1) (pe_callB call_len_seq (by rfl) T.len PySem.boot_len (pa_cons (pe_fld (pv 0) rfl) pa_nil)))) (pss_one (ps_no)) pss_nil)), ?_⟩
    refine ⟨_, rfl, _, _, rfl, rfl, _, rfl, ite2 (fun q => ⟨_, rfl, m, Cm, dx, _, _, rfl, e1, T.cl, T.nP, f_programs, P, _, rfl, .inr (SqT.of e2), _, _, rfl, rfl, _, rfl, ite2 (fun q => ?_) (fun q => fin)⟩) (fun q => absurd (decide_eq_true (by omega)) q)⟩
    have : ¬ ((i : Int) < (((ls.map V.ref).length : Nat) : Int)) := by simpa using q
    rw [List.length_map] at this
    omega
theorem scTurnM : FnScope ["self", "hand", "number", "told", "state"] ["self", "hand"] (defScope s_Machine_turn) := ⟨rfl, rfl, rfl, by decide +kernel, rfl, by decide +kernel, by decide +kernel⟩
theorem met_turn (T : TxM K mg Cm) : C8.Met P w K mg base 6 Cm "turn" (spTurnM K Cm) [] := by
  obtain ⟨f, fd, F, M⟩ := T.turn.ex
  have m_check_hand : C8.Met P w K mg base 1 Cm "check_hand" (spCheckHand K Cm) [] := met_check_hand T
  have c_step : C8.Cal P w K mg base 5 "step" (spStep K) [] := cal_step T.S
  have c_decides : C8.Cal P w K mg base 1 "decides" (spDecides K) [] := cal_decides T.T
  have c_was_stale : C8.Cal P w K mg base 1 "was_stale" (spWasStale K) [] := cal_was_stale T.T T.S.c
  have C := T.S.c
  refine met_of F T.cl M (F.bindsN fun _ _ _ _ _ _ us hl => match us, hl with | [_, _], _ => rfl) (fok F scTurnM (fun vs H Q E h => ?_) (fun cdv A outer s0 H vs Q E hr h => ?_))
  · obtain ⟨L, r, n, s, i, h, rfl, _⟩ := h
    rfl
  · obtain ⟨L, r, n, s, i, h, rfl, M, hi, O, hn, rp, fin⟩ := h
    refine ⟨_, (pss_cons
    (ps_expr (C8.pe_mt m_check_hand hr (by decide) (pv 0) (pa_cons (pv 1) pa_nil))) (pss_cons
    (ps_set (i := 2) scTurnM.nd rfl (.inl rfl) (pe_ix ix_tup (pe_ix ix_tup (pe_ix ix_tup (pe_fld (pv 0) rfl) (pe_num (n := 5) rfl C.HANDS) (fun _ _ => rfl)) (pv 1) (fun _ _ => rfl)) (pe_num (n := 0) rfl C.NUMBER) (fun _ _ => rfl))) (pss_cons
    (ps_asg (C8.pe_c c_step hr (by decide) (by rfl) (pa_cons (pe_fld (pv 0) rfl) (pa_cons (pe_fld (pv 0) rfl) (pa_cons (pe_fld (pv 0) rfl) (pa_cons (pv 1) pa_nil))))) (pg_tup (by rfl) (pgs_cons (pg_name (i := 3) scTurnM.nd rfl (.inl rfl)) (pgs_cons (pg_name (i := 4) scTurnM.nd rfl (.inl rfl)) pgs_nil)))) (pss_cons
    (ps_fld (pv 0) (pv 4) rfl) (Evl.pss_cut
    (ps_if (pt_val (C8.pe_c c_decides hr (by decide) (by rfl) (pa_cons (pv 3) pa_nil))) (pss_one (ps_expr (pe_bm PySem.F.plainAttrs_list PySem.F.slot_list_append PySem.F.type_list_append mt_append (pe_fld (pv 0) rfl) (pa_cons (pe_tup (pa_cons (pv 1) (pa_cons (pv 2) pa_nil))) pa_nil)))) pss_nil) (Evl.pss_cut
    (ps_if (pt_cmpR op_eq (pe_ix ix_tup (pv 3) pe_int (fun _ _ => rfl)) pe_str (nomark _)) (pss_one (ps_expr (pe_bm PySem.F.plainAttrs_list PySem.F.slot_list_append PySem.F.type_list_append mt_append (pe_ix ix_list (pe_fld (pv 0) rfl) (pv 1) (fun _ _ => rfl)) (pa_cons (pe_ix ix_tup (pv 3) pe_int (fun _ _ => rfl)) pa_nil)))) pss_nil) (Evl.pss_cut
    (ps_if (pt_val (C8.pe_c c_was_stale hr (by decide) (by rfl) (pa_cons (pv 3) (pa_cons (pv 4) (pa_cons (pv 1) pa_nil))))) (pss_one (ps_fld (pv 0) pe_bl rfl)) pss_nil) (pss_one
    (ps_ret (pv 3)))))))))), ?_⟩
    obtain ⟨a, e1, st⟩ := M.ins
    have hips : s.ps.hands[i]? = some h.ph := by show (s.hands.map Hand.ph)[i]? = _; rw [List.getElem?_map, hi]; rfl
    have hid : (s.hands.map Hand.deeds)[i]? = some h.deeds := by rw [List.getElem?_map, hi]; rfl
    obtain ⟨nx, fr, v, hh, as, t, e0, en, ef, ev, eh, pr, et, ex⟩ := st.hand hips
    obtain ⟨ls, p1, p2⟩ := id M.pg
    have il := (List.getElem?_eq_some_iff.mp hi).1
    have lsl := paired_len p2
    rw [List.length_map] at lsl
    refine ⟨_, rfl, L.m, L.dx, _, rfl, e1, f_none (by decide +kernel), _, rfl, L.m, L.dx, L.P, L.R, a, L.An, L.De, s.stale, i, ls, rfl, e1, p1, by omega, ?_⟩
    refine ⟨_, rfl, L.m, _, L.dx, _, _, rfl, e1, T.cl, T.nS, f_state, a, _, 5, _, rfl, rfl, SqT.of e0, rfl, _, rfl, hh, _, (i : Int), .ref t, rfl, rfl, SqT.of eh, at_ref et, t, _, 0, _, rfl, rfl, SqT.of ex, rfl, ?_⟩
    refine ⟨_, rfl, L.m, _, L.dx, _, _, rfl, e1, T.cl, T.nS, f_state, _, rfl, L.m, _, L.dx, _, _, rfl, e1, T.cl, T.nP, f_programs, _, rfl, L.m, _, L.dx, _, _, rfl, e1, T.cl, T.nR, f_rule, _, rfl, a, L.P, L.R, s.ps, r, i, h.ph, s.hands.map Hand.deeds, h.deeds, rfl, st, M.pg.at_, M.rule, rp, hips, hid, step_ok O hn hi, fun tt H1 s1 out => ?_⟩
    have hst := step_go O.bnd.len O.base O.fit hi
    have tgo : turn r s i = go r s i h := by unfold Sk.turn; rw [hi]
    rw [hst] at out
    obtain ⟨u, b, ett, eu, eb⟩ := out
    dsimp only at eu eb
    have gout := Go.out O hi (go_kind r s i h)
    rw [tgo] at fin
    generalize hg : go r s i h = g at eu eb gout fin
    obtain ⟨stp, s'⟩ := g
    dsimp only at eu eb gout fin
    obtain ⟨g1, ⟨h', g2, g3, g4, g5, g6⟩, g7⟩ := gout
    have M1 := M.same s1
    have e11 := s1 _ _ e1
    refine ⟨tt, _, rfl, SqT.of ett, rfl, _, _, rfl, _, _, rfl, rfl, ?_⟩
    refine ⟨_, rfl, _, rfl, L.m, _, L.dx, _, rfl, e11, T.cl, T.nS, by show 6 < 1000; decide, ?_⟩
    rw [put_state]
    have M2 := M1.setIns (c := s.stale) eb
    have k2 : Kept2 L H _ := (Kept2.of s1).trans (Kept2.upd (o := .ins Cm L.dx (mFs L.P L.R b L.An L.De s.stale)) own_m)
    have kp2 : Kp H1 _ := .upd (u := .ins Cm L.dx (mFs L.P L.R b L.An L.De s.stale)) e11 rfl
    have eu2 := kp2 _ _ eu rfl
    have eb2 := eb.tups kp2.tups
    generalize upd H1 L.m (.ins Cm L.dx (mFs L.P L.R b L.An L.De s.stale)) = H2 at M2 k2 kp2 eu2 eb2 ⊢
    refine ⟨fun σ' H3 => σ' = [some (.ref L.m), some (.int (i : Int)), some (.int (h.ph.num : Int)), some (.ref u), some (.ref b)] ∧ MacP K H3 Cm r L s'.ps (s.hands.map Hand.deeds) (s.hands.map Hand.said) s'.ends s.stale ∧ Kept2 L H H3 ∧ Kp H2 H3, ?c1, ?m1⟩
    case c1 =>
      refine ⟨_, rfl, u, stp, rfl, eu2, g7, fun H3 s3 => ⟨_, rfl, ite2 (fun q => ?_) (fun q => ?_)⟩⟩
      · have M3 := M2.same s3
        obtain ⟨a3, e3, _⟩ := M3.ins
        obtain ⟨es, d1, d2⟩ := M3.dec
        refine ⟨_, rfl, L.m, _, L.dx, _, _, rfl, e3, T.cl, T.nD, f_decided, .inl ⟨rfl, _, SqL.of d1⟩, _, rfl, _, rfl, by show 2 ≤ sizeLine; decide, fun tp np => ?_⟩
        have s4 := same_upd (o := .tup [V.int (i : Int), .int (h.ph.num : Int)]) np
        have M4 := M3.same s4
        have len : es.length = s.ends.length := paired_len d2
        refine ⟨L.De, _, _, rfl, rfl, s4 _ _ d1, by rw [List.length_map, len, sizeLine_eq]; have := O.bnd.few.2.2.1; omega, ?_⟩
        have M5 := M4.addEnd (p := (i, h.ph.num)) (s4 _ _ d1) (Paired.mono2 (fun _ _ z => s4 _ _ z) d2) upd_same
        refine ⟨rfl, ?_, (k2.trans (.of (s3.trans s4))).trans (Kept2.upd own_De), (Kp.of (s3.trans s4)).trans (.upd (s4 _ _ d1) rfl)⟩
        rw [g1, if_pos q]
        rw [ph_num] at M5 ⊢
        exact M5
      · refine ⟨rfl, ?_, k2.trans (.of s3), .of s3⟩
        rw [g1, if_neg q, List.append_nil]
        exact M2.same s3
    case m1 =>
      rintro σ' H3 ⟨rfl, M3, k3, kp3⟩
      have eu3 := kp3 _ _ eu2 rfl
      have eu3' := eu3
      rw [row_cons] at eu3'
      refine ⟨fun σ' H4 => σ' = [some (.ref L.m), some (.int (i : Int)), some (.int (h.ph.num : Int)), some (.ref u), some (.ref b)] ∧ MacP K H4 Cm r L s'.ps (s.hands.map Hand.deeds) ((s.hands.map Hand.said).set i (h.said ++ stp.say)) s'.ends s.stale ∧ Kept2 L H H4 ∧ Kp H2 H4, ?c2, ?m2⟩
      case c2 =>
        refine ⟨_, rfl, u, _, 0, .str stp.word, rfl, rfl, SqT.of eu3', atI_nat (j := 0) rfl, rfl, _, rfl, ?_⟩
        have hsd : (s.hands.map Hand.said)[i]? = some h.said := by rw [List.getElem?_map, hi]; rfl
        obtain ⟨q, hq, _⟩ := paired_get M3.said hsd
        cases stp with
        | ends v =>
          refine iteT ?_
          obtain ⟨a3, e3, _⟩ := M3.ins
          obtain ⟨eq, M4⟩ := M3.say (v := v) hq hsd
          refine ⟨_, rfl, L.m, _, L.dx, _, _, rfl, e3, T.cl, T.nA, f_answered, _, rfl, L.An, _, (i : Int), .ref q, rfl, rfl, SqL.of M3.ans, at_ref hq, .inl ⟨rfl, _, SqL.of eq⟩, _, rfl, u, _, 1, v, rfl, rfl, SqT.of eu3, atI_nat (j := 1) rfl, q, _, _, rfl, rfl, eq, ?_, rfl, M4, k3.trans (Kept2.upd (own_qa hq)), kp3.trans (.upd eq rfl)⟩
          rw [sizeLine_eq]
          have := O.bnd.few.2.2.2 h (List.mem_of_getElem? hi)
          omega
        | rests => exact iteF ⟨rfl, by rw [show h.said ++ Stp.say .rests = h.said from List.append_nil _, set_get hsd]; exact M3, k3, kp3⟩
        | misses => exact iteF ⟨rfl, by rw [show h.said ++ Stp.say .misses = h.said from List.append_nil _, set_get hsd]; exact M3, k3, kp3⟩
        | takes c => exact iteF ⟨rfl, by rw [show h.said ++ Stp.say (.takes c) = h.said from List.append_nil _, set_get hsd]; exact M3, k3, kp3⟩
        | reads c => exact iteF ⟨rfl, by rw [show h.said ++ Stp.say (.reads c) = h.said from List.append_nil _, set_get hsd]; exact M3, k3, kp3⟩
        | links c => exact iteF ⟨rfl, by rw [show h.said ++ Stp.say (.links c) = h.said from List.append_nil _, set_get hsd]; exact M3, k3, kp3⟩
        | marks c => exact iteF ⟨rfl, by rw [show h.said ++ Stp.say (.marks c) = h.said from List.append_nil _, set_get hsd]; exact M3, k3, kp3⟩
        | looks c => exact iteF ⟨rfl, by rw [show h.said ++ Stp.say (.looks c) = h.said from List.append_nil _, set_get hsd]; exact M3, k3, kp3⟩
        | follows c => exact iteF ⟨rfl, by rw [show h.said ++ Stp.say (.follows c) = h.said from List.append_nil _, set_get hsd]; exact M3, k3, kp3⟩
        | exchanges c => exact iteF ⟨rfl, by rw [show h.said ++ Stp.say (.exchanges c) = h.said from List.append_nil _, set_get hsd]; exact M3, k3, kp3⟩
      case m2 =>
        rintro σ' H4 ⟨rfl, M4, k4, kp4⟩
        have eu4 := kp4 _ _ eu2 rfl
        have eb4 := eb2.tups kp4.tups
        have ihd : s'.ps.hands[i]? = some h'.ph := by
          show (s'.hands.map Hand.ph)[i]? = _
          rw [g2, List.getElem?_map, List.getElem?_set_self il]
          rfl
        have eds : s'.hands.map Hand.deeds = s.hands.map Hand.deeds := by
          rw [g2, List.map_set, g3]
          exact set_get hid
        have esd : s'.hands.map Hand.said = (s.hands.map Hand.said).set i (h.said ++ stp.say) := by
          rw [g2, List.map_set, g4]
        rw [← esd, ← eds] at M4
        refine ⟨fun σ' H5 => σ' = [some (.ref L.m), some (.int (i : Int)), some (.int (h.ph.num : Int)), some (.ref u), some (.ref b)] ∧ MacAt K H5 Cm r L s' ∧ Kept2 L H H5 ∧ Kp H2 H5, ?c3, ?m3⟩
        case c3 =>
          refine ⟨_, rfl, _, rfl, _, rfl, u, b, stp, s'.ps, i, h'.ph, rfl, eu4, eb4, ihd, g6, _, rfl, ite2 (fun q => ?_) (fun q => ?_)⟩
          · obtain ⟨a4, e4, st4⟩ := M4.ins
            refine ⟨_, rfl, L.m, _, L.dx, _, rfl, e4, T.cl, T.nH, by show 6 < 1000; decide, ?_⟩
            rw [put_stale]
            have M5 := M4.setIns (c := true) st4
            refine ⟨rfl, ?_, k4.trans (Kept2.upd own_m), kp4.trans (.upd e4 rfl)⟩
            have es : s'.stale = true := by rw [g5, q, Bool.or_true]
            unfold MacAt
            rw [es]
            exact M5
          · refine ⟨rfl, ?_, k4, kp4⟩
            have es : s'.stale = s.stale := by rw [g5, Bool.eq_false_iff.mpr q, Bool.or_false]
            unfold MacAt
            rw [es]
            exact M4
        case m3 =>
          rintro σ' H5 ⟨rfl, M5, k5, kp5⟩
          exact ⟨_, rfl, fin u H5 M5 k5 (kp5 _ _ eu2 rfl)⟩
end
end Sk


/-! The package's machine made. -/
namespace Sk
open PySem PySem.Spec PyProof.Rows L2
/-- tuple(x) -/
def rTupOf (K : PySem.W.Frag) : List V → Hp → VK → Prop := fun xs H Q => ∃ p ys, xs = [.ref p] ∧ ((SqL K H p ys ∧ ∀ l, H l = none → Q (.ref l) (upd H l (.tup ys))) ∨ (SqT K H p ys ∧ Q (.ref p) H))
theorem call_tupK {X : Cx} : CallR X (.type "tuple") (rTupOf X.K) := call_tuple_of
/-- all of a machine's own is new -/
def Born (F : Hp) (L : ML) : Prop := ∀ y ∈ L.An :: L.own, F y = none
def spInitM (K : PySem.W.Frag) (Cm : Addr) : Sp := fun vs H Q _ => ∃ (x dx a p rl : Addr) (F : Hp) (xs : List Int) (ps : List (List Deed)) (r : Rule), vs = [.ref x, .ref a, .ref p, .ref rl] ∧ H = upd (upd F dx (.own x)) x (.ins Cm dx []) ∧ F x = none ∧ F dx = none ∧ dx ≠ x ∧
  SqL K F a (xs.map V.int) ∧ FitV xs ∧ Progs K F p ps ∧ Fit ps ∧ RuleAt F rl r ∧ r.fit ps.length ∧ ∀ (L : ML) (H' : Hp), L.m = x → MacAt K H' Cm r L (Mach.begun xs ps) → Same F H' → Born F L → Q .non H'
theorem sameN {F H : Hp} {x : Addr} {o : HO} (s : Same F H) (n : F x = none) : Same F (upd H x o) := fun y u h => by
  rw [upd_ne (ne_of_none h n)]
  exact s _ _ h
theorem nd_refs {qs : List Addr} {H : Hp} (q : Addr) (nd : qs.Nodup) (h : ∀ y ∈ qs, ∃ o, H y = some o) (n : H q = none) : (qs ++ [q]).Nodup := by
  rw [List.nodup_append]
  refine ⟨nd, by simp, fun a ha b hb => ?_⟩
  rw [List.mem_singleton.mp hb]
  obtain ⟨o, e⟩ := h a ha
  exact ne_of_none e n
theorem begun_deeds (ps : List (List Deed)) : (ps.map Hand.new).map Hand.deeds = ps := by
  rw [List.map_map]
  exact List.map_id'' (fun _ => rfl) ps
theorem begun_said (ps : List (List Deed)) : (ps.map Hand.new).map Hand.said = List.replicate ps.length [] := by
  rw [List.map_map, List.eq_replicate_iff]
  refine ⟨by rw [List.length_map], fun x hx => ?_⟩
  obtain ⟨ds, _, e⟩ := List.mem_map.mp hx
  exact e.symm
section
variable {P : Program} {w : World} {K : PySem.W.Frag} {mg : Str → Option Value} {base : Heap} {Cm : Addr}
theorem scInitM : FnScope ["self", "values", "programs", "rule", "deeds", "_"] ["self", "values", "programs", "rule"] (defScope s_Machine_init) := ⟨rfl, rfl, rfl, by decide +kernel, rfl, by decide +kernel, by decide +kernel⟩
theorem mak_Machine (T : TxM K mg Cm) : C8.Mak P w K mg base 7 "Machine" Cm (spInitM K Cm) [] := by
  obtain ⟨f, fd, F, M⟩ := T.init
  have c_check_all : C8.Cal P w K mg base 6 "check_all" (spChkA K) [] := cal_check_all T.K
  have c_first_state : C8.Cal P w K mg base 2 "first_state" (spFirstState K) [] := cal_first_state T.S
  have C := T.S.c
  refine ⟨f, fd, _, [], M, (fok F scInitM (fun vs H Q E h => ?_) (fun cdv A outer s0 H vs Q E hr h => ?_)), T.g, (F.bindsN fun _ _ _ _ _ _ us hl => match us, hl with | [_, _, _, _], _ => rfl), .nil⟩
  · obtain ⟨x, dx, a, p, rl, G, xs, ps, r, rfl, _⟩ := h
    rfl
  · obtain ⟨x, dx, a, p, rl, G, xs, ps, r, rfl, rfl, nx, nd, ne, hS, fv, pg, ft, ru, rf, fin⟩ := h
    refine ⟨_, (pss_cons
    (ps_expr (C8.pe_c c_check_all hr (by decide) (by rfl) (pa_cons (pv 1) (pa_cons (pv 2) (pa_cons (pv 3) pa_nil))))) (pss_cons
    (ps_fld (pv 0) (pe_callTy call_tuple_of (by rfl) T.tuple (by decide +kernel) (pa_cons (pe_lc (own := [("deeds", 4)]) (g := gName 4) (tt := tYes) rfl scInitM.nd (pi_list (pv 2)) (blkOk_by (N := (["self", "values", "programs", "rule", "deeds", "_"])) (sc := defScope s_Machine_init) (by decide +kernel)) (fun _ _ _ _ _ => pg_name (i := 4) scInitM.nd rfl (Or.inl rfl)) (fun _ _ _ _ _ => pts_nil) (fun _ _ _ _ _ => (pe_callTy (r := rTupOf K) call_tupK (by rfl) T.tuple (by decide +kernel) (pa_cons (pv 4) pa_nil)))) pa_nil)) rfl) (pss_cons
    (ps_fld (pv 0) (pv 3) rfl) (pss_cons
    (ps_fld (pv 0) (C8.pe_c c_first_state hr (by decide) (by rfl) (pa_cons (pv 1) (pa_cons (pe_callB call_len_seq (by rfl) T.len PySem.boot_len (pa_cons (pv 2) pa_nil)) pa_nil))) rfl) (pss_cons
    (ps_fld (pv 0) (pe_lc (own := [("_", 5)]) (g := gName 5) (tt := tYes) rfl scInitM.nd (pi_list (pv 2)) (blkOk_by (N := (["self", "values", "programs", "rule", "deeds", "_"])) (sc := defScope s_Machine_init) (by decide +kernel)) (fun _ _ _ _ _ => pg_name (i := 5) scInitM.nd rfl (Or.inl rfl)) (fun _ _ _ _ _ => pts_nil) (fun _ _ _ _ _ => (pe_lst pa_nil))) rfl) (pss_cons
    (ps_fld (pv 0) (pe_lst pa_nil) rfl) (pss_one
    (ps_fld (pv 0) pe_bl rfl)))))))), ?_⟩
    have s0 : Same G (upd (upd G dx (.own x)) x (.ins Cm dx [])) := fun b o e => by
      rw [upd_ne (ne_of_none e nx), upd_ne (ne_of_none e nd)]
      exact e
    have e0 : (upd (upd G dx (.own x)) x (.ins Cm dx [])) x = some (.ins Cm dx []) := upd_same
    generalize upd (upd G dx (.own x)) x (.ins Cm dx []) = H0 at s0 e0 ⊢
    refine ⟨_, rfl, _, rfl, _, rfl, a, p, rl, xs, ps, r, rfl, s0.seq hS, fv, pg.same s0, ft, ru.same s0, rf, fun H1 s1 => ?_⟩
    have s01 := s0.trans s1
    obtain ⟨ls, p1, p2⟩ := pg.same s01
    have ll := paired_len p2
    -- self.programs
    refine ⟨_, rfl, p, rfl, ⟨_, SqL.of p1⟩, fun D nD => ?_⟩
    refine lc_list (K := K) (a := p) (xs := ls.map V.ref) (fun i H2 => Same H1 H2 ∧ ∃ ts : List Addr, H2 D = some (.lst (ts.map V.ref)) ∧ Paired (DsT K H2) ts (ps.take i)) ⟨same_upd nD, [], upd_same, .nil⟩ (fun i H2 _ z => SqL.of (z.1 _ _ p1)) ?turn ?rest
    case turn =>
      rintro i y H2 hi ⟨s2, ts, eD, pr⟩
      have hil : i < ls.length := by
        have := (List.getElem?_eq_some_iff.mp hi).1
        rw [List.length_map] at this
        exact this
      have hip : i < ps.length := by omega
      obtain ⟨l, el, dts, d1, d2⟩ := paired_get p2 (List.getElem?_eq_getElem hip)
      have ey : y = .ref l := by
        rw [List.getElem?_map, el] at hi
        exact (Option.some.inj hi).symm
      subst ey
      have tl := paired_len pr
      rw [List.length_take] at tl
      refine ⟨rfl, tyes ⟨_, rfl, l, _, rfl, .inl ⟨SqL.of (s2 _ _ d1), fun q nq => ⟨_, (same_upd nq) _ _ eD, ?_, ?_, ts ++ [q], ?_, ?_⟩⟩⟩⟩
      · rw [List.length_map, sizeLine_eq]
        have := ft.2.1
        omega
      · intro c o e
        have nc : c ≠ D := ne_of_none e nD
        rw [upd_ne nc]
        exact (same_upd nq) _ _ (s2 _ _ e)
      · rw [upd_same, List.map_append]
        rfl
      · have k1 : Kp H2 (upd (upd H2 q (.tup (dts.map V.ref))) D (.lst (ts.map V.ref ++ [V.ref q]))) := (Kp.of (same_upd nq)).trans (.upd ((same_upd nq) _ _ eD) rfl)
        have k2 : Kp (upd H2 q (.tup (dts.map V.ref))) (upd (upd H2 q (.tup (dts.map V.ref))) D (.lst (ts.map V.ref ++ [V.ref q]))) := .upd ((same_upd nq) _ _ eD) rfl
        rw [List.take_add_one, List.getElem?_eq_getElem hip]
        refine Paired.app (Paired.mono2 (fun _ _ z => z.kp k1) pr) (.cons ⟨dts, k2 _ _ upd_same rfl, (d2.kp (Kp.of s2)).kp k1⟩ .nil)
    case rest =>
      rintro H2 ⟨s2, ts, eD, pr⟩
      have fulls : ps.take (ls.map V.ref).length = ps := List.take_of_length_le (by rw [List.length_map]; omega)
      rw [fulls] at pr
      refine ⟨D, _, rfl, .inl ⟨SqL.of eD, fun PT nPT => ?_⟩⟩
      have s3 := same_upd (o := .tup (ts.map V.ref)) nPT
      have g3 : Same G _ := (s01.trans s2).trans s3
      have e3 := s3 _ _ (s2 _ _ (s1 _ _ e0))
      have pt : PgT K (upd H2 PT (.tup (ts.map V.ref))) PT ps := ⟨ts, upd_same, Paired.mono2 (fun _ _ z => z.kp (.of s3)) pr⟩
      generalize upd H2 PT (.tup (ts.map V.ref)) = H3 at s3 g3 e3 pt ⊢
      refine ⟨_, rfl, x, Cm, dx, [], rfl, e3, T.cl, T.nP, by show 0 < 1000; decide, ?_⟩
      have k4 : Kp H3 (upd H3 x (.ins Cm dx (putF "programs" (.ref PT) []))) := .upd e3 rfl
      have g4 : Same G (upd H3 x (.ins Cm dx (putF "programs" (.ref PT) []))) := sameN g3 nx
      have e4 : (upd H3 x (.ins Cm dx (putF "programs" (.ref PT) []))) x = some (.ins Cm dx [("programs", V.ref PT)]) := upd_same
      have pt4 := pt.kp k4
      generalize upd H3 x (.ins Cm dx (putF "programs" (.ref PT) [])) = H4 at k4 g4 e4 pt4 ⊢
      refine ⟨_, rfl, _, rfl, x, Cm, dx, _, rfl, e4, T.cl, T.nR, by show 1 < 1000; decide, ?_⟩
      have k5 : Kp H4 (upd H4 x (.ins Cm dx (putF "rule" (.ref rl) [("programs", V.ref PT)]))) := .upd e4 rfl
      have g5 : Same G (upd H4 x (.ins Cm dx (putF "rule" (.ref rl) [("programs", V.ref PT)]))) := sameN g4 nx
      have e5 : (upd H4 x (.ins Cm dx (putF "rule" (.ref rl) [("programs", V.ref PT)]))) x = some (.ins Cm dx [("programs", V.ref PT), ("rule", V.ref rl)]) := by
        rw [upd_same, putN (by decide +kernel)]
        rfl
      have pt5 := pt4.kp k5
      generalize upd H4 x (.ins Cm dx (putF "rule" (.ref rl) [("programs", V.ref PT)])) = H5 at k5 g5 e5 pt5 ⊢
      obtain ⟨ls5, p5, q5⟩ := pg.same g5
      have ll5 := paired_len q5
      refine ⟨_, rfl, _, rfl, p, _, rfl, .inl (SqL.of p5), a, xs, ps.length, by rw [List.length_map, ll5]; rfl, g5.seq hS, by have := fv.1; omega, ft.1, by have := ft.2.1; omega, fun S H6 s6 st6 => ?_⟩
      have e6 := s6 _ _ e5
      refine ⟨_, rfl, x, Cm, dx, _, rfl, e6, T.cl, T.nS, by show 2 < 1000; decide, ?_⟩
      have k7 : Kp H6 (upd H6 x (.ins Cm dx (putF "state" (.ref S) [("programs", V.ref PT), ("rule", V.ref rl)]))) := .upd e6 rfl
      have g7 : Same G (upd H6 x (.ins Cm dx (putF "state" (.ref S) [("programs", V.ref PT), ("rule", V.ref rl)]))) := sameN (g5.trans s6) nx
      have e7 : (upd H6 x (.ins Cm dx (putF "state" (.ref S) [("programs", V.ref PT), ("rule", V.ref rl)]))) x = some (.ins Cm dx [("programs", V.ref PT), ("rule", V.ref rl), ("state", V.ref S)]) := by
        rw [upd_same, putN (by decide +kernel), putN (by decide +kernel)]
        rfl
      have pt7 := (pt5.kp (.of s6)).kp k7
      have st7 := st6.tups k7.tups
      generalize upd H6 x (.ins Cm dx (putF "state" (.ref S) [("programs", V.ref PT), ("rule", V.ref rl)])) = H7 at k7 g7 e7 pt7 st7 ⊢
      obtain ⟨ls7, p7, q7⟩ := pg.same g7
      have ll7 := paired_len q7
      refine ⟨_, rfl, p, rfl, ⟨_, SqL.of p7⟩, fun D2 nD2 => ?_⟩
      refine lc_list (K := K) (a := p) (xs := ls7.map V.ref) (fun i H8 => Same H7 H8 ∧ ∃ qs : List Addr, H8 D2 = some (.lst (qs.map V.ref)) ∧ qs.length = i ∧ Paired (fun q l => H8 q = some (.lst l)) qs (List.replicate i []) ∧ (∀ q ∈ qs, H7 q = none ∧ q ≠ D2) ∧ qs.Nodup) ⟨same_upd nD2, [], upd_same, rfl, .nil, fun q hq => (by cases hq), .nil⟩ (fun i H8 _ z => SqL.of (z.1 _ _ p7)) ?turn2 ?rest2
      case turn2 =>
        rintro i y H8 hi ⟨s8, qs, eD8, ql, pq, hq, ndq⟩
        refine ⟨rfl, tyes ⟨Nat.zero_le _, fun q nq => ⟨_, (same_upd nq) _ _ eD8, ?_, ?_, qs ++ [q], ?_, ?_, ?_, ?_, ?_⟩⟩⟩
        · have := (List.getElem?_eq_some_iff.mp hi).1
          rw [List.length_map] at this
          rw [List.length_map, ql, sizeLine_eq]
          have := ft.2.1
          omega
        · intro c o e
          rw [upd_ne (ne_of_none e nD2)]
          exact (same_upd nq) _ _ (s8 _ _ e)
        · rw [upd_same, List.map_append]
          rfl
        · rw [List.length_append, ql]
          rfl
        · have nDq : q ≠ D2 := (ne_of_none eD8 nq).symm
          have em : D2 ∉ qs := fun z => (hq D2 z).2 rfl
          rw [show List.replicate (i + 1) ([] : List V) = List.replicate i [] ++ [[]] from List.replicate_succ']
          refine Paired.app (paired_upd em (paired_upd (fun z => ?_) pq)) (.cons (by rw [upd_ne nDq]; exact upd_same) .nil)
          obtain ⟨l, e⟩ := paired_mem pq z
          rw [nq] at e
          cases e
        · intro z hz
          rcases List.mem_append.mp hz with q1 | q1
          · exact hq z q1
          · rw [List.mem_singleton.mp q1]
            exact ⟨s8.free nq, (ne_of_none eD8 nq).symm⟩
        · exact nd_refs q ndq (fun z hz => by obtain ⟨l, e⟩ := paired_mem pq hz; exact ⟨_, e⟩) nq
      case rest2 =>
        rintro H8 ⟨s8, qs, eD8, ql, pq, hq, ndq⟩
        rw [List.length_map, ll7] at ql pq
        have e8 := s8 _ _ e7
        refine ⟨_, rfl, x, Cm, dx, _, rfl, e8, T.cl, T.nA, by show 3 < 1000; decide, ?_⟩
        have k9 : Kp H8 (upd H8 x (.ins Cm dx (putF "answered" (.ref D2) [("programs", V.ref PT), ("rule", V.ref rl), ("state", V.ref S)]))) := .upd e8 rfl
        have g9 : Same G (upd H8 x (.ins Cm dx (putF "answered" (.ref D2) [("programs", V.ref PT), ("rule", V.ref rl), ("state", V.ref S)]))) := sameN (g7.trans s8) nx
        have e9 : (upd H8 x (.ins Cm dx (putF "answered" (.ref D2) [("programs", V.ref PT), ("rule", V.ref rl), ("state", V.ref S)]))) x = some (.ins Cm dx [("programs", V.ref PT), ("rule", V.ref rl), ("state", V.ref S), ("answered", V.ref D2)]) := by
          rw [upd_same, putN (by decide +kernel), putN (by decide +kernel), putN (by decide +kernel)]
          rfl
        have n8 : ∀ y l, H8 y = some (.lst l) → (upd H8 x (.ins Cm dx (putF "answered" (.ref D2) [("programs", V.ref PT), ("rule", V.ref rl), ("state", V.ref S)]))) y = some (.lst l) := fun y l e => by
          rw [upd_ne (ne_of e e8 (by intro z; cases z))]
          exact e
        have pt9 := (pt7.kp (.of s8)).kp k9
        have st9 := (st7.same s8).tups k9.tups
        have xq : x ∉ qs := fun z => by
          obtain ⟨l, e⟩ := paired_mem pq z
          rw [e8] at e
          cases e
        have xD : x ≠ D2 := fun z => by
          rw [z, eD8] at e8
          cases e8
        have pq9 := paired_upd (o := .ins Cm dx (putF "answered" (.ref D2) [("programs", V.ref PT), ("rule", V.ref rl), ("state", V.ref S)])) xq pq
        have eD9 := n8 _ _ eD8
        generalize upd H8 x (.ins Cm dx (putF "answered" (.ref D2) [("programs", V.ref PT), ("rule", V.ref rl), ("state", V.ref S)])) = H9 at k9 g9 e9 n8 pt9 st9 pq9 eD9 ⊢
        refine ⟨Nat.zero_le _, fun De nDe => ⟨_, rfl, x, Cm, dx, _, rfl, (same_upd nDe) _ _ e9, T.cl, T.nD, by show 4 < 1000; decide, ?_⟩⟩
        have sD := same_upd (o := .lst ([] : List V)) nDe
        have xDe : x ≠ De := ne_of_none e9 nDe
        have DDe : D2 ≠ De := ne_of_none eD9 nDe
        have qDe : De ∉ qs := fun z => by
          obtain ⟨l, e⟩ := paired_mem pq9 z
          rw [nDe] at e
          cases e
        have gDe := g9.free nDe
        have pq10 := paired_upd (o := .lst ([] : List V)) qDe pq9
        have e10 := sD _ _ e9
        have eDe : (upd H9 De (.lst ([] : List V))) De = some (.lst []) := upd_same
        have eD10 := sD _ _ eD9
        have pt10 := pt9.kp (.of sD)
        have st10 := st9.same sD
        have g10 := g9.trans sD
        generalize upd H9 De (.lst ([] : List V)) = H10 at sD pq10 e10 eDe eD10 pt10 st10 g10 ⊢
        have k11 : Kp H10 (upd H10 x (.ins Cm dx (putF "decided" (.ref De) [("programs", V.ref PT), ("rule", V.ref rl), ("state", V.ref S), ("answered", V.ref D2)]))) := .upd e10 rfl
        have e11 : (upd H10 x (.ins Cm dx (putF "decided" (.ref De) [("programs", V.ref PT), ("rule", V.ref rl), ("state", V.ref S), ("answered", V.ref D2)]))) x = some (.ins Cm dx [("programs", V.ref PT), ("rule", V.ref rl), ("state", V.ref S), ("answered", V.ref D2), ("decided", V.ref De)]) := by
          rw [upd_same, putN (by decide +kernel), putN (by decide +kernel), putN (by decide +kernel), putN (by decide +kernel)]
          rfl
        refine ⟨_, rfl, x, Cm, dx, _, rfl, e11, T.cl, T.nH, by show 5 < 1000; decide, ?_⟩
        rw [upd_upd]
        have efs : putF "had_stale" (.bl false) [("programs", V.ref PT), ("rule", V.ref rl), ("state", V.ref S), ("answered", V.ref D2), ("decided", V.ref De)] = mFs PT rl S D2 De false := by
          rw [putN (by decide +kernel), putN (by decide +kernel), putN (by decide +kernel), putN (by decide +kernel), putN (by decide +kernel)]
          rfl
        rw [efs]
        have k12 : Kp H10 (upd H10 x (.ins Cm dx (mFs PT rl S D2 De false))) := .upd e10 rfl
        refine fin ⟨x, dx, PT, rl, D2, De, qs⟩ _ rfl ?_ (sameN g10 nx) ?_
        · unfold MacAt
          refine ⟨⟨S, upd_same, ?_⟩, ?_, (ru.same g10).tups k12.tups, ?_, ?_, ⟨[], ?_, .nil⟩, ?_⟩
          · rw [begun_ps]
            exact st10.tups k12.tups
          · show PgT K _ PT ((ps.map Hand.new).map Hand.deeds)
            rw [begun_deeds]
            exact pt10.kp k12
          · rw [upd_ne (Ne.symm xD)]
            exact eD10
          · show Paired _ qs ((ps.map Hand.new).map Hand.said)
            rw [begun_said]
            exact paired_upd xq pq10
          · rw [upd_ne (Ne.symm xDe)]
            exact eDe
          · show (D2 :: x :: De :: qs).Nodup
            simp only [List.nodup_cons, List.mem_cons, not_or]
            exact ⟨⟨Ne.symm xD, DDe, fun z => (hq D2 z).2 rfl⟩, ⟨xDe, xq⟩, qDe, ndq⟩
        · intro y hy
          rcases List.mem_cons.mp hy with z | hy
          · exact z ▸ g7.free nD2
          · rcases List.mem_cons.mp hy with z | hy
            · exact z ▸ nx
            · rcases List.mem_cons.mp hy with z | hy
              · exact z ▸ gDe
              · exact g7.free (hq y hy).1
end
end Sk


/-! What is refused: programs that cannot be, out of the checks and out of a machine that is made. -/
namespace Sk
open PySem PySem.Spec PyProof.Rows L2
/-- a def that may refuse -/
structure CalE (P : Program) (w : World) (K : PySem.W.Frag) (mg : Str → Option Value) (base : Heap) (k : Nat) (x : Str) (sp : Sp) : Prop where
  ex : ∃ (f : Addr) (fd : FuncData) (ps : List Str), FnOk P w K mg base (L2N.CX P w) k f fd ps sp ∧ mg x = some (.ref f) ∧ PySem.W.keepIn K (.ref f) = true ∧ Binds K fd ps []
/-- a class whose __init__ may refuse -/
structure MakE (P : Program) (w : World) (K : PySem.W.Frag) (mg : Str → Option Value) (base : Heap) (k : Nat) (x : Str) (C : Addr) (sp : Sp) : Prop where
  ex : ∃ (f : Addr) (fd : FuncData) (ps : List Str), Mk K C f ∧ FnOk P w K mg base (L2N.CX P w) k f fd ps sp ∧ mg x = some (.ref C) ∧ Binds K fd ps []
section
variable {X : Cx} {k j : Nat} {C : Addr} {x : Str} {sp : Sp} {E : L2.St → XK} {p pos : Pos} {e : Expr} {es : List Expr} {t : TA}
theorem pe_cE (c : CalE X.prog X.w X.K X.mg X.base k x sp) (hr : Room j X.A) (hk : k ≤ j) (hg : Gl X x) (hx : ∀ σ, PassesAt (L2N.CX X.prog X.w) X σ (E σ)) (ha : PA X (e :: es) t)
    (hdb : (x == ("__debug__" : Str)) = false := by decide) (he : starEach (e :: es) X.env = (false, eval e X.env) :: starEach es X.env := by rfl) (hpl : (backTo pos (starEach es X.env)).any (·.1) = false := by rfl) :
    PE X (.Call (.Name x p) (e :: es) [] pos) (tCallS sp E t) := by
  obtain ⟨f, fd, ps, F, hm, kp, b⟩ := c.ex
  exact pe_callS F (hr.mono hk) hg hm kp b hx ha hdb he hpl
/-- C(..): a new instance and its dict, then __init__, which may refuse -/
def tMakeS (C : Addr) (sp : Sp) (E : L2.St → XK) (t : TA) : TE := fun σ H Q => t σ H fun vs H1 => ∀ x dx, H1 x = none → H1 dx = none → dx ≠ x →
  sp (.ref x :: vs) (upd (upd H1 dx (.own x)) x (.ins C dx [])) (fun v H2 => v = .non ∧ Q (.ref x) H2) (E σ)
theorem run_makeS {CX : CXT} {f : Addr} {fd : FuncData} {ps : List Str} {pins : List (Addr × Obj)} {σ : L2.St} {H : Hp} {s : Shared} {Q : VK} {us : List Value} {vs : List V} {E1 : XK} (M : Mk X.K C f) (F : FnOk X.prog X.w X.K X.mg X.base CX k f fd ps sp) (hr : Room (k + 1) X.A) (hb : Binds X.K fd ps [])
    (hx : PassesAt CX X σ E1) (I : L2.Inv X pins σ H s) (r : Vals vs us)
    (h : ∀ x dx, H x = none → H dx = none → dx ≠ x → sp (.ref x :: vs) (upd (upd H dx (.own x)) x (.ins C dx [])) (fun v H2 => v = .non ∧ Q (.ref x) H2) E1) :
    wpAny (model X.prog X.w) X.A (call (.ref C) us) (EP X pins σ Q) X.xe s := by
  have hq := h (s.heap.objs.size + 1) s.heap.objs.size (I.hok.fresh (Nat.le_succ _)) (I.hok.fresh (Nat.le_refl _)) (Nat.ne_of_lt (Nat.lt_succ_self _))
  have I2 := L2.Inv.made (C := C) I
  have r2 : Vals (V.ref (s.heap.objs.size + 1) :: vs) (Value.ref (s.heap.objs.size + 1) :: us) := .cons rfl r
  have hl : (Value.ref (s.heap.objs.size + 1) :: us).length = ps.length := by
    have e := r2.length
    rw [F.len _ _ _ _ hq] at e
    exact e.symm
  have hb' := hb _ (Value.ref (s.heap.objs.size + 1) :: us) I2.kIn (by rw [List.append_nil]; exact hl)
  rw [List.append_nil] at hb'
  refine wpAny_call (make_map (f := f) I.kIn M.makes M.init (beq_iff_eq.mp M.fn) (codeAny_mono (F.run _ X.stack _ _ ⟨Value.ref (s.heap.objs.size + 1) :: us, []⟩ (Value.ref (s.heap.objs.size + 1) :: us) _ _ E1 (hr.make C us [])
    (I2.env0.make C us []) hb' r2 hq) fun r s' hq' => ?_))
  cases r with
  | error e => exact hx pins _ _ e s' I2 hq'
  | ok fl =>
    cases fl with
    | ret u =>
      obtain ⟨v, H', I3, rv, ev, q3⟩ := I2.after hq'
      subst ev
      exact ⟨rv, ⟨V.ref (s.heap.objs.size + 1), H', I3, rfl, q3⟩⟩
    | next => exact False.elim hq'
    | brk => exact False.elim hq'
    | cont => exact False.elim hq'
theorem pe_mkE (c : MakE X.prog X.w X.K X.mg X.base k x C sp) (hr : Room j X.A) (hk : k + 1 ≤ j) (hg : Gl X x) (hx : ∀ σ, PassesAt (L2N.CX X.prog X.w) X σ (E σ)) (ha : PA X (e :: es) t)
    (hdb : (x == ("__debug__" : Str)) = false := by decide) (he : starEach (e :: es) X.env = (false, eval e X.env) :: starEach es X.env := by rfl) (hpl : (backTo pos (starEach es X.env)).any (·.1) = false := by rfl) :
    PE X (.Call (.Name x p) (e :: es) [] pos) (tMakeS C sp E t) := by
  obtain ⟨f, fd, ps, M, F, hm, b⟩ := c.ex
  refine ⟨fun pins s σ H Q I h => ?_⟩
  refine wpAny_Call_Name_kw (ld_glob I hg hm ?_ hdb)
  refine PySem.W.callWith_K (h₀ := X.base) I.ok.mod.kin M.kp (thn (ha.run pos pins s σ H _ I h) fun us s1 ⟨vs, H1, I1, r, q⟩ => ⟨I1.kIn, ?_⟩) he hpl
  exact run_makeS M F (hr.mono hk) b (hx σ) I1 r q
/-- a block that is not come to -/
theorem pss_no {sts : List Stmt} : PSs X sts (fun _ _ _ => False) := ⟨fun _ _ _ _ _ _ z => z.elim⟩
end
/-! ### programs of any rows -/
def RowsAt (K : PySem.W.Frag) (H : Hp) (l : Addr) (rs : List Row) : Prop := ∃ ts : List Addr, SqL K H l (ts.map V.ref) ∧ Rows K H ts rs
def PRows (K : PySem.W.Frag) (H : Hp) (p : Addr) (rss : List (List Row)) : Prop := ∃ ls : List Addr, SqL K H p (ls.map V.ref) ∧ Paired (RowsAt K H) ls rss
theorem RowsAt.same {K : PySem.W.Frag} {H H' : Hp} {l : Addr} {rs : List Row} (h : RowsAt K H l rs) (s : Same H H') : RowsAt K H' l rs := by
  obtain ⟨ts, h1, h2⟩ := h
  exact ⟨ts, s.seq h1, h2.mono fun t xs z => same_tup s z⟩
theorem PRows.same {K : PySem.W.Frag} {H H' : Hp} {p : Addr} {rss : List (List Row)} (h : PRows K H p rss) (s : Same H H') : PRows K H' p rss := by
  obtain ⟨ls, h1, h2⟩ := h
  exact ⟨ls, s.seq h1, Paired.mono2 (fun _ _ z => z.same s) h2⟩
theorem Progs.rows {K : PySem.W.Frag} {H : Hp} {p : Addr} {ps : List (List Deed)} (h : Progs K H p ps) : PRows K H p (ps.map fun ds => ds.map Deed.row) := by
  obtain ⟨ls, h1, h2⟩ := h
  refine ⟨ls, SqL.of h1, ?_⟩
  clear h1
  induction h2 with
  | nil => exact .nil
  | cons a _ ih =>
    obtain ⟨ts, a1, a2⟩ := a
    exact .cons ⟨ts, SqL.of a1, a2⟩ ih
/-- the first bad deed of the hands from i on -/
def badHand : Nat → List (List Row) → Option (Nat × Nat)
  | _, [] => none
  | i, rs :: rest => if 4 < rs.length then some (i, 4) else match firstNot okRow rs with
    | some j => some (i, j)
    | none => badHand (i + 1) rest
def badProg (rss : List (List Row)) : Option (Nat × Nat) := if rss.length = 0 ∨ 3 < rss.length then some (rss.length, 0) else badHand 0 rss
/-- lists that are not too long, of rows that can be told apart -/
def Tame (rss : List (List Row)) : Prop := rss.length ≤ 1000 ∧ ∀ rs ∈ rss, rs.length ≤ 1000 ∧ ∀ r ∈ rs, Lay r
def spChkPE (K : PySem.W.Frag) (CD : Addr) : Sp := fun vs H Q E => ∃ (p : Addr) (rss : List (List Row)), vs = [.ref p] ∧ PRows K H p rss ∧ Tame rss ∧
  (∀ h n : Nat, badProg rss = some (h, n) → Wants E H CD [("number", .int (n : Int)), ("hand", .int (h : Int))]) ∧ (badProg rss = none → ∀ H', Same H H' → Q .non H')
def spChkVPE (K : PySem.W.Frag) (CP CD : Addr) : Sp := fun vs H Q E => ∃ (a p : Addr) (ns : List Int) (rss : List (List Row)), vs = [.ref a, .ref p] ∧ SqL K H a (ns.map V.int) ∧ ns.length ≤ 1000 ∧ PRows K H p rss ∧ Tame rss ∧
  (6 < ns.length → Wants E H CP [("at", .int 6)]) ∧ (ns.length ≤ 6 → ∀ i : Nat, firstNot valB ns = some i → Wants E H CP [("at", .int (i : Int))]) ∧
  (ns.length ≤ 6 → firstNot valB ns = none → (∀ h n : Nat, badProg rss = some (h, n) → Wants E H CD [("number", .int (n : Int)), ("hand", .int (h : Int))]) ∧ (badProg rss = none → ∀ H', Same H H' → Q .non H'))
theorem Wants.same {E : XK} {H H' : Hp} {C : Addr} {fs : List (Str × V)} (h : Wants E H C fs) (s : Same H H') : Wants E H' C fs := fun d H2 s2 e => h d H2 (s.trans s2) e
section
variable {P : Program} {w : World} {K : PySem.W.Frag} {mg : Str → Option Value} {base : Heap} {B CP CD fP fD : Addr} {mc : Value}
/-- the errors' own __init__ -/
structure TxEI (K : PySem.W.Frag) (mg : Str → Option Value) (B CP CD fP fD : Addr) (mc : Value) : Prop where
  e : TxErr K mg B CP CD fP fD mc
  iP : ∃ fd, FnP K "__init__" "BadPile.__init__" sInitP fP fd
  iD : ∃ fd, FnP K "__init__" "BadDeed.__init__" sInitD fD fd
theorem calE_check_values (T : TxK K mg) (TI : TxEI K mg B CP CD fP fD mc) : CalE P w K mg base 3 "check_values" (spChkV K CP) := by
  obtain ⟨f, fd, F, g⟩ := T.check_values.ex
  obtain ⟨fV, dV, FV, gV⟩ := T.is_value.ex
  obtain ⟨dP, FP⟩ := TI.iP
  exact ⟨f, fd, _, ok_chkV F FV gV T.HIGHEST_VALUE T.MOST_VALUES TI.e FP T.len T.enumerate, g, F.kp, (F.bindsN fun _ _ _ _ _ _ us hl => match us, hl with | [_], _ => rfl)⟩
theorem calE_check_programs (T : TxK K mg) (TI : TxEI K mg B CP CD fP fD mc) : CalE P w K mg base 4 "check_programs" (spChkPE K CD) := by
  obtain ⟨f, fd, F, g⟩ := T.check_programs.ex
  have TE := TI.e
  obtain ⟨dD, FD⟩ := TI.iD
  have GD : FnOk P w K mg base CX0 1 fD dD ["self", "hand", "number"] (spInit2 K CD "hand" "number") := ok_initD FD TE
  have bD : Binds K dD ["self", "hand", "number"] [] := (FD.bindsN fun _ _ _ _ _ _ us hl => match us, hl with | [_, _, _], _ => rfl)
  have c_first_bad_deed : C8.Cal P w K mg base 3 "first_bad_deed" (spFirst K) [] := cal_first_bad_deed T
  have C := T
  refine ⟨f, fd, ["programs"], fokN F scChkP (fun vs H Q E h => ?_) (fun cdv A outer s H vs Q E hr h => ?_), g, F.kp, (F.bindsN fun _ _ _ _ _ _ us hl => match us, hl with | [_], _ => rfl)⟩
  · obtain ⟨p, rss, rfl, _⟩ := h
    rfl
  · obtain ⟨p, rss, rfl, pg, tm, k1, k2⟩ := h
    refine ⟨_, (Evl.pss_cut
    (ps_if (pt_not (pt_chain op_le op_le pe_int (pe_callB call_len_seq (by rfl) T.len PySem.boot_len (pa_cons (pv 0) pa_nil)) (pe_num (n := 3) rfl C.MOST_HANDS))) (pss_one (L2N.ps_raise rfl (L2N.takes_of rfl rfl rfl rfl) (pmkN TE.oD TE.iD TE.tD GD (hr.mono (by decide)) bD pass0 (by rfl) TE.gD (pa_cons (pe_callB call_len_seq (by rfl) T.len PySem.boot_len (pa_cons (pv 0) pa_nil)) (pa_cons pe_int pa_nil))))) pss_nil) (pss_one
    (ps_for (passes_of rfl) rfl (pi_enum (by rfl) T.enumerate (pa_cons (pv 0) pa_nil)) (pg_tup (by rfl) (pgs_cons (pg_name (i := 1) scChkP.nd rfl (.inl rfl)) (pgs_cons (pg_name (i := 2) scChkP.nd rfl (.inl rfl)) pgs_nil))) (Evl.pss_cut
    (ps_if (pt_cmpR op_gt (pe_callB call_len_seq (by rfl) T.len PySem.boot_len (pa_cons (pv 2) pa_nil)) (pe_num (n := 4) rfl C.MOST_DEEDS) (nomark _)) (pss_one (L2N.ps_raise rfl (L2N.takes_of rfl rfl rfl rfl) (pmkN TE.oD TE.iD TE.tD GD (hr.mono (by decide)) bD pass0 (by rfl) TE.gD (pa_cons (pv 1) (pa_cons (pe_num (n := 4) rfl C.MOST_DEEDS) pa_nil))))) pss_nil) (pss_cons
    (ps_set (i := 3) scChkP.nd rfl (.inl rfl) (C8.pe_c c_first_bad_deed hr (by decide) (by rfl) (pa_cons (pv 2) pa_nil))) (pss_one
    (ps_if (pt_cmpR op_notN (pv 3) pe_non (nomark _)) (pss_one (L2N.ps_raise rfl (L2N.takes_of rfl rfl rfl rfl) (pmkN TE.oD TE.iD TE.tD GD (hr.mono (by decide)) bD pass0 (by rfl) TE.gD (pa_cons (pv 1) (pa_cons (pv 3) pa_nil))))) pss_nil))))))), ?_⟩
    obtain ⟨ls, p1, p2⟩ := pg
    obtain ⟨t1, t2⟩ := tm
    have ll := paired_len p2
    by_cases hbad : rss.length = 0 ∨ 3 < rss.length
    · have eb : badProg rss = some (rss.length, 0) := by
        unfold badProg
        rw [if_pos hbad]
      have wt : ([V.int ((rss.length : Nat) : Int), V.int 0] : List V).length ≤ 1000 ∧ _ := raise2 (K := K) (g := "number") (f := "hand") (small_log (by omega)) (small_log (by decide)) (k1 _ _ eb)
      have lls : (((ls.map V.ref).length : Nat) : Int) = ((rss.length : Nat) : Int) := by rw [List.length_map, ll]
      refine ⟨fun _ _ => False, ⟨_, rfl, p, _, rfl, .inl p1, _, _, rfl, rfl, _, rfl, ?_⟩, fun _ _ z => z.elim⟩
      rcases hbad with z | z
      · refine ite2 (fun hl => ?_) (fun hl => ?_)
        · exfalso
          have := of_decide_eq_true hl
          omega
        · refine ⟨_, rfl, iteT ⟨_, rfl, p, _, rfl, .inl p1, ?_⟩⟩
          rw [lls]
          exact wt
      · refine ite2 (fun hl => ⟨_, _, rfl, rfl, _, rfl, ite2 (fun hl2 => ?_) (fun hl2 => ?_)⟩) (fun hl => ?_)
        · refine ⟨_, rfl, p, _, rfl, .inl p1, ?_⟩
          rw [lls]
          exact wt
        · exfalso
          have : (((ls.map V.ref).length : Nat) : Int) ≤ 3 := by simpa using hl2
          omega
        · exfalso
          refine absurd (decide_eq_true ?_) hl
          omega
    · have eb : badProg rss = badHand 0 rss := by
        unfold badProg
        rw [if_neg hbad]
      rw [eb] at k1 k2
      refine ⟨fun σ' H' => σ' = [some (.ref p), none, none, none] ∧ H' = H, ⟨_, rfl, p, _, rfl, .inl p1, _, _, rfl, rfl, _, rfl, ite2 (fun hl => ⟨_, _, rfl, rfl, _, rfl, ite2 (fun hl => ?_) (fun hl => ⟨rfl, rfl⟩)⟩) (fun hl => ?_)⟩, ?_⟩
      · exfalso
        have : ¬ ((((ls.map V.ref).length : Nat) : Int) ≤ 3) := by simpa using hl
        rw [List.length_map] at this
        omega
      · exfalso
        refine absurd (decide_eq_true ?_) hl
        rw [List.length_map]
        omega
      · rintro σ' H' ⟨rfl, rfl⟩
        refine ⟨_, rfl, p, _, rfl, p1, for_it walk_enum (fun i σ H1 => Same H' H1 ∧ (∃ u v x : Option V, σ = [some (.ref p), u, v, x]) ∧ badHand 0 rss = badHand i (rss.drop i)) ⟨.refl H', ⟨none, none, none, rfl⟩, rfl⟩ (fun i σ H1 _ z => z.1.seq p1) ?_ ?_⟩
        · rintro i x σ H1 H2 hi ⟨s1, ⟨u, v, b, rfl⟩, eq⟩ ⟨t, x1, x2, rfl, nt, rfl, e1, e2⟩
          rw [List.length_map] at hi
          have hi2 : i < rss.length := by omega
          have e1' : V.int (i : Nat) = x1 := Option.some.inj e1
          subst e1'
          obtain ⟨l, el, ts, d1, d2⟩ := paired_get p2 (List.getElem?_eq_getElem hi2)
          have e3 : x2 = V.ref l := by
            have e4 : (ls.map V.ref)[i]? = some x2 := e2
            rw [List.getElem?_map, el] at e4
            exact (Option.some.inj e4).symm
          subst e3
          have s2 := s1.trans (same_upd (o := .tup [.int (i : Nat), V.ref l]) nt)
          obtain ⟨g1, g2⟩ := t2 _ (List.getElem_mem hi2)
          have dl := d2.len
          have edr : rss.drop i = rss[i] :: rss.drop (i + 1) := List.drop_eq_getElem_cons hi2
          rw [edr] at eq
          refine ⟨t, _, rfl, SqT.of upd_same, rfl, _, _, rfl, _, _, rfl, rfl, ?_⟩
          by_cases h4 : 4 < rss[i].length
          · have e5 : badHand 0 rss = some (i, 4) := by
              rw [eq]
              unfold badHand
              rw [if_pos h4]
            refine ⟨fun _ _ => False, ⟨_, rfl, l, _, rfl, .inl (s2.seq d1), _, _, rfl, rfl, _, rfl, ite2 (fun hl => ?_) (fun hl => ?_)⟩, fun _ _ z => z.elim⟩
            · refine ⟨_, rfl, ?_⟩
              exact raise2 (small_log (by omega)) (small_log (by decide)) ((k1 _ _ e5).same s2)
            · exfalso
              refine absurd (decide_eq_true ?_) hl
              rw [List.length_map]
              omega
          · refine ⟨fun σ' H3 => σ' = [some (.ref p), some (.int (i : Nat)), some (.ref l), b] ∧ H3 = _, ⟨_, rfl, l, _, rfl, .inl (s2.seq d1), _, _, rfl, rfl, _, rfl, ite2 (fun hl => ?_) (fun hl => ⟨rfl, rfl⟩)⟩, ?_⟩
            · exfalso
              have := of_decide_eq_true hl
              rw [List.length_map] at this
              omega
            · rintro σ' H3 ⟨rfl, rfl⟩
              refine ⟨_, rfl, l, ts, rss[i], rfl, s2.seq d1, d2.mono fun t xs z => same_tup s2 z, g2, fun H4 s4 => ?_⟩
              cases ef : firstNot okRow rss[i] with
              | some j =>
                have e5 : badHand 0 rss = some (i, j) := by
                  rw [eq]
                  unfold badHand
                  rw [if_neg h4, ef]
                have jl := (List.getElem?_eq_some_iff.mp (firstNot_some ef).1.choose_spec.1).1
                refine ⟨_, rfl, rfl, _, rfl, iteT ⟨_, rfl, _, rfl, ?_⟩⟩
                exact raise2 (small_log (by omega)) (small_log (by omega)) ((k1 _ _ e5).same (s2.trans s4))
              | none =>
                refine ⟨_, rfl, rfl, _, rfl, iteF ⟨s2.trans s4, ⟨_, _, _, rfl⟩, ?_⟩⟩
                rw [eq]
                conv => lhs; unfold badHand
                rw [if_neg h4, ef]
        · rintro σ H1 ⟨s1, ⟨u, v, x, rfl⟩, eq⟩
          refine k2 ?_ H1 s1
          rw [eq, List.drop_of_length_le (by rw [List.length_map]; omega)]
          rfl
theorem calE_check_pile_and_programs (T : TxK K mg) (TI : TxEI K mg B CP CD fP fD mc) : CalE P w K mg base 5 "check_pile_and_programs" (spChkVPE K CP CD) := by
  obtain ⟨f, fd, F, g⟩ := T.check_pile_and_programs.ex
  have c_check_values : CalE P w K mg base 3 "check_values" (spChkV K CP) := calE_check_values T TI
  have c_check_programs : CalE P w K mg base 4 "check_programs" (spChkPE K CD) := calE_check_programs T TI
  refine ⟨f, fd, ["values", "programs"], fokN F scChkVP (fun vs H Q E h => ?_) (fun cdv A outer s H vs Q E hr h => ?_), g, F.kp, (F.bindsN fun _ _ _ _ _ _ us hl => match us, hl with | [_, _], _ => rfl)⟩
  · obtain ⟨a, p, ns, rss, rfl, _⟩ := h
    rfl
  · obtain ⟨a, p, ns, rss, rfl, hS, hl, pg, tm, k1, k2, k3⟩ := h
    refine ⟨_, (pss_cons
    (ps_expr (pe_cE c_check_values hr (by decide) (by rfl) (fun σ => L2N.passAt (L2N.takes_of (E := E) rfl rfl rfl rfl) σ) (pa_cons (pv 0) pa_nil))) (pss_one
    (ps_expr (pe_cE c_check_programs hr (by decide) (by rfl) (fun σ => L2N.passAt (L2N.takes_of (E := E) rfl rfl rfl rfl) σ) (pa_cons (pv 1) pa_nil))))), ?_⟩
    refine ⟨_, rfl, a, ns, rfl, hS, hl, k1, k2, fun h6 hv H1 s1 => ?_⟩
    obtain ⟨k4, k5⟩ := k3 h6 hv
    exact ⟨_, rfl, p, rss, rfl, pg.same s1, tm, fun h n e => (k4 h n e).same s1, fun e H2 s2 => k5 e H2 (s1.trans s2)⟩
end
end Sk


/-! A machine that is refused for its values or programs. -/
namespace Sk
open PySem PySem.Spec PyProof.Rows L2
/-- something is refused ahead of the rule -/
def spBadVP (K : PySem.W.Frag) (CP CD : Addr) (a p : Addr) (H : Hp) (E : XK) : Prop := ∃ (ns : List Int) (rss : List (List Row)), SqL K H a (ns.map V.int) ∧ ns.length ≤ 1000 ∧ PRows K H p rss ∧ Tame rss ∧
  (6 < ns.length → Wants E H CP [("at", .int 6)]) ∧ (ns.length ≤ 6 → ∀ i : Nat, firstNot valB ns = some i → Wants E H CP [("at", .int (i : Int))]) ∧
  (ns.length ≤ 6 → firstNot valB ns = none → ∃ h n : Nat, badProg rss = some (h, n) ∧ Wants E H CD [("number", .int (n : Int)), ("hand", .int (h : Int))])
theorem spBadVP.same {K : PySem.W.Frag} {CP CD a p : Addr} {H H' : Hp} {E : XK} (h : spBadVP K CP CD a p H E) (s : Same H H') : spBadVP K CP CD a p H' E := by
  obtain ⟨ns, rss, h1, h2, h3, h4, h5, h6, h7⟩ := h
  refine ⟨ns, rss, s.seq h1, h2, h3.same s, h4, fun z => (h5 z).same s, fun z i e => (h6 z i e).same s, fun z e => ?_⟩
  obtain ⟨h, n, e1, e2⟩ := h7 z e
  exact ⟨h, n, e1, e2.same s⟩
def spChkAE (K : PySem.W.Frag) (CP CD : Addr) : Sp := fun vs H _ E => ∃ (a p rl : Addr), vs = [.ref a, .ref p, .ref rl] ∧ spBadVP K CP CD a p H E
def spInitME (K : PySem.W.Frag) (CP CD : Addr) : Sp := fun vs H _ E => ∃ (x a p rl : Addr), vs = [.ref x, .ref a, .ref p, .ref rl] ∧ spBadVP K CP CD a p H E
section
variable {P : Program} {w : World} {K : PySem.W.Frag} {mg : Str → Option Value} {base : Heap} {B CP CD fP fD Cm : Addr} {mc : Value}
theorem calE_check_all (T : TxK K mg) (TI : TxEI K mg B CP CD fP fD mc) : CalE P w K mg base 6 "check_all" (spChkAE K CP CD) := by
  obtain ⟨f, fd, F, g⟩ := T.check_all.ex
  have c_check_pile_and_programs : CalE P w K mg base 5 "check_pile_and_programs" (spChkVPE K CP CD) := calE_check_pile_and_programs T TI
  refine ⟨f, fd, ["values", "programs", "rule"], fokN F scChkA (fun vs H Q E h => ?_) (fun cdv A outer s H vs Q E hr h => ?_), g, F.kp, (F.bindsN fun _ _ _ _ _ _ us hl => match us, hl with | [_, _, _], _ => rfl)⟩
  · obtain ⟨a, p, rl, rfl, _⟩ := h
    rfl
  · obtain ⟨a, p, rl, rfl, ns, rss, hS, hl, pg, tm, k1, k2, k3⟩ := h
    refine ⟨_, (pss_cons
    (ps_expr (pe_cE c_check_pile_and_programs hr (by decide) (by rfl) (fun σ => L2N.passAt (L2N.takes_of (E := E) rfl rfl rfl rfl) σ) (pa_cons (pv 0) (pa_cons (pv 1) pa_nil)))) (pss_one
    (ps_no))), ?_⟩
    refine ⟨_, rfl, _, rfl, a, p, ns, rss, rfl, hS, hl, pg, tm, k1, k2, fun h6 hv => ?_⟩
    obtain ⟨h, n, e, wt⟩ := k3 h6 hv
    exact ⟨fun h' n' e' => by rw [e] at e'; cases e'; exact wt, fun e' => by rw [e] at e'; cases e'⟩
theorem makE_Machine (T : TxM K mg Cm) (TI : TxEI K mg B CP CD fP fD mc) : MakE P w K mg base 7 "Machine" Cm (spInitME K CP CD) := by
  obtain ⟨f, fd, F, M⟩ := T.init
  have c_check_all : CalE P w K mg base 6 "check_all" (spChkAE K CP CD) := calE_check_all T.K TI
  refine ⟨f, fd, ["self", "values", "programs", "rule"], M, fokN F scInitM (fun vs H Q E h => ?_) (fun cdv A outer s H vs Q E hr h => ?_), T.g, (F.bindsN fun _ _ _ _ _ _ us hl => match us, hl with | [_, _, _, _], _ => rfl)⟩
  · obtain ⟨x, a, p, rl, rfl, _⟩ := h
    rfl
  · obtain ⟨x, a, p, rl, rfl, bad⟩ := h
    refine ⟨_, pss_cons (ps_expr (pe_cE c_check_all hr (by decide) (by rfl) (fun σ => L2N.passAt (L2N.takes_of (E := E) rfl rfl rfl rfl) σ) (pa_cons (pv 1) (pa_cons (pv 2) (pa_cons (pv 3) pa_nil))))) pss_no, ?_⟩
    exact ⟨_, rfl, _, rfl, _, rfl, a, p, rl, rfl, bad⟩
end
/-! ### programs handed to a machine that is not made: what is told of them -/
structure TxCaught (K : PySem.W.Frag) (mg : Str → Option Value) (CD : Addr) : Prop where
  gD : mg "BadDeed" = some (.ref CD)
  eD : PySem.W.exmOne K (.ref CD) (.ref CD) = some true
  xD : XfC K CD
  nH : PySem.W.findIn K (.ref CD) "hand" = some none
  nN : PySem.W.findIn K (.ref CD) "number" = some none
end Sk


namespace Sk
open PySem PySem.Spec PyProof.Rows L2 L2H HotX
theorem takesN {X : Cx} : L2N.Takes X (fun _ _ _ _ => False) := fun _ _ x => by
  obtain ⟨_, _, _, _, _, _, _, _, _, _, _, _, _, _, _, _, z⟩ := x
  exact z.elim
def spLBad (K : PySem.W.Frag) : Sp := fun vs H Q _ => ∃ (p : Addr) (rss : List (List Row)) (h n : Nat), vs = [.ref p] ∧ PRows K H p rss ∧ Tame rss ∧ badProg rss = some (h, n) ∧ (h < 1000 ∧ n < 1000) ∧
  ∀ t H', Same H H' → H t = none → H' t = some (.tup [.int (h : Int), .int (n : Int)]) → Q (.ref t) H'
/-- reading the suite -/
def t_suite90 (K : PySem.W.Frag) (CD : Addr) : Addr → Value → Option Addr → TS := fun a cls d => tRet (tTup (tCons (tXf a cls d CD "hand" (tVar 1)) (tCons (tXf a cls d CD "number" (tVar 1)) tNil)))
section
variable {P : Program} {w : World} {K : PySem.W.Frag} {mg : Str → Option Value} {base : Heap} {B CP CD fP fD Cm : Addr} {mc : Value}
theorem scLBad : FnScope ["_law_programs", "e"] ["_law_programs"] (defScope s_law_bad) := ⟨rfl, rfl, rfl, by decide +kernel, rfl, by decide +kernel, by decide +kernel⟩
theorem cal_lbad (T : TxM K mg Cm) (TI : TxEI K mg B CP CD fP fD mc) (TC : TxCaught K mg CD) (D : DefAt K mg "_law_bad" s_law_bad) : C8.Cal P w K mg base 9 "_law_bad" (spLBad K) [] := by
  obtain ⟨f, fd, F, g⟩ := D.ex
  have k_Machine : MakE P w K mg base 7 "Machine" Cm (spInitME K CP CD) := makE_Machine T TI
  refine cal_of F g (F.bindsN fun _ _ _ _ _ _ us hl => match us, hl with | [_], _ => rfl) (fok F scLBad (fun vs H Q E h => ?_) (fun cdv A outer s H vs Q E hr h => ?_))
  · obtain ⟨p, rss, h, n, rfl, _⟩ := h
    rfl
  · obtain ⟨p, rss, h, n, rfl, pg, tm, eb, hz, fin⟩ := h
    refine ⟨_, pss_one (L2N.ps_try_as (i := 1) (ts := t_suite90 K CD) (Wout := fun _ _ _ _ => False) rfl rfl scLBad.nd rfl rfl ⟨rfl, by decide, Or.inl TC.gD⟩ takesN
      (fun W pn xe tk _ => pss_cons (ps_expr (pe_mkE k_Machine hr (by decide) (by rfl) (fun σ => L2N.passAt tk σ) (pa_cons (pe_lst pa_nil) (pa_cons (pv 0) (pa_cons (pe_tup (pa_cons pe_str pa_nil)) pa_nil))))) (pss_one (ps_ret pe_non)))
      (fun a oe cls d pn hz hf => pss_one (ps_ret (pe_tup (pa_cons (by exact (pe_xf TC.xD TC.nH hz.zc hf (pv 1))) (pa_cons (by exact (pe_xf TC.xD TC.nN hz.zc hf (pv 1))) pa_nil)))))), ?_⟩
    refine ⟨Nat.zero_le _, fun a na => ⟨_, rfl, by show 1 ≤ sizeLine; decide, fun t1 n1 x dx nx ndx ne => ?_⟩⟩
    have s1 := same_upd (o := .lst ([] : List V)) na
    have s2 := same_upd (o := .tup [V.str sKeeps]) n1
    have ea := s2 _ _ (upd_same (H := H) (a := a) (o := .lst ([] : List V)))
    have s12 := s1.trans s2
    have s3 : Same (upd (upd H a (.lst [])) t1 (.tup [V.str sKeeps])) (upd (upd (upd (upd H a (.lst [])) t1 (.tup [V.str sKeeps])) dx (.own x)) x (.ins Cm dx [])) := fun b o e => by
      rw [upd_ne (ne_of_none e nx), upd_ne (ne_of_none e ndx)]
      exact e
    have s13 := s12.trans s3
    refine ⟨x, a, p, t1, rfl, [], rss, SqL.of (s3 _ _ ea), Nat.zero_le _, pg.same s13, tm, fun z => absurd z (by decide), fun _ i z => ?_, fun _ _ => ⟨h, n, eb, fun d H' s4 e => ?_⟩⟩
    · cases z
    · refine ⟨true, TC.eD, fun _ a0 na0 => ?_, fun q => Bool.noConfusion q⟩
      have l1 : List.lookup (Str.ofString "hand") [((Str.ofString "number" : Str), V.int (n : Int)), (Str.ofString "hand", V.int (h : Int))] = some (.int (h : Int)) := by
        have q : ((Str.ofString "hand" : Str) == Str.ofString "number") = false := by decide +kernel
        simp [List.lookup, q]
      refine ⟨_, rfl, rfl, rfl, d, _, .int (h : Int), rfl, e, l1, _, rfl, rfl, rfl, d, _, .int (n : Int), rfl, e, (by simp [List.lookup]), (by show 2 ≤ sizeLine; decide), fun l nl => ?_⟩
      exact fin l _ ((s13.trans s4).trans (same_upd nl)) ((s13.trans s4).free nl) upd_same
end
end Sk


namespace Sk
open PySem PySem.Spec PyProof.Rows L2
def spFree (K : PySem.W.Frag) (Cm : Addr) : Sp := fun vs H Q _ => ∃ (L : ML) (r : Rule) (s : Mach), vs = [.ref L.m] ∧ MacAt K H Cm r L s ∧ ∀ D H', Same H H' → H D = none → H' D = some (.lst (vN s.free)) → Q (.ref D) H'
def spMarked (K : PySem.W.Frag) (Cm : Addr) : Sp := fun vs H Q _ => ∃ (L : ML) (r : Rule) (s : Mach) (i : Nat) (h : Hand), vs = [.ref L.m, .int (i : Int)] ∧ MacAt K H Cm r L s ∧ s.hands[i]? = some h ∧ Q (.int (h.mark : Int)) H
section
variable {P : Program} {w : World} {K : PySem.W.Frag} {mg : Str → Option Value} {base : Heap} {Cm : Addr}
theorem scFree : FnScope ["self"] ["self"] (defScope s_Machine_free) := ⟨rfl, rfl, rfl, by decide +kernel, rfl, by decide +kernel, by decide +kernel⟩
theorem met_free (T : TxM K mg Cm) (D : MethAt K Cm "free" "Machine.free" s_Machine_free) : C8.Met P w K mg base 1 Cm "free" (spFree K Cm) [] := by
  obtain ⟨f, fd, F, M⟩ := D.ex
  have C := T.S.c
  refine met_of F T.cl M (F.bindsN fun _ _ _ _ _ _ us hl => match us, hl with | [_], _ => rfl) (fok F scFree (fun vs H Q E h => ?_) (fun cdv A outer s0 H vs Q E hr h => ?_))
  · obtain ⟨L, r, s, rfl, _⟩ := h
    rfl
  · obtain ⟨L, r, s, rfl, M, fin⟩ := h
    refine ⟨_, (pss_one (ps_ret (pe_callTy call_list_of (by rfl) T.list (by decide +kernel) (pa_cons (pe_ix ix_tup (pe_fld (pv 0) rfl) (pe_num (n := 3) rfl C.FREE) (fun _ _ => rfl)) pa_nil)))), ?_⟩
    obtain ⟨a, e1, n, fr, v, hh, e0, en, ef, ev, eh⟩ := M.ins
    exact ⟨_, rfl, L.m, _, L.dx, _, _, rfl, e1, T.cl, T.nS, f_state, a, _, 3, _, rfl, rfl, SqT.of e0, rfl, fr, _, rfl, .inr (SqT.of ef), fun D nD => fin D _ (same_upd nD) nD upd_same⟩
theorem scMarked : FnScope ["self", "hand"] ["self", "hand"] (defScope s_Machine_marked) := ⟨rfl, rfl, rfl, by decide +kernel, rfl, by decide +kernel, by decide +kernel⟩
theorem met_marked (T : TxM K mg Cm) (D : MethAt K Cm "marked" "Machine.marked" s_Machine_marked) : C8.Met P w K mg base 2 Cm "marked" (spMarked K Cm) [] := by
  obtain ⟨f, fd, F, M⟩ := D.ex
  have C := T.S.c
  have m_check_hand : C8.Met P w K mg base 1 Cm "check_hand" (spCheckHand K Cm) [] := met_check_hand T
  refine met_of F T.cl M (F.bindsN fun _ _ _ _ _ _ us hl => match us, hl with | [_, _], _ => rfl) (fok F scMarked (fun vs H Q E h => ?_) (fun cdv A outer s0 H vs Q E hr h => ?_))
  · obtain ⟨L, r, s, i, h, rfl, _⟩ := h
    rfl
  · obtain ⟨L, r, s, i, h, rfl, M, hi, fin⟩ := h
    refine ⟨_, (pss_cons
    (ps_expr (C8.pe_mt m_check_hand hr (by decide) (pv 0) (pa_cons (pv 1) pa_nil))) (pss_one
    (ps_ret (pe_ix ix_tup (pe_ix ix_tup (pe_ix ix_tup (pe_fld (pv 0) rfl) (pe_num (n := 5) rfl C.HANDS) (fun _ _ => rfl)) (pv 1) (fun _ _ => rfl)) (pe_num (n := 6) rfl C.MARK) (fun _ _ => rfl))))), ?_⟩
    obtain ⟨a, e1, st⟩ := M.ins
    obtain ⟨ls, p1, p2⟩ := id M.pg
    have lsl := paired_len p2
    rw [List.length_map] at lsl
    have il := (List.getElem?_eq_some_iff.mp hi).1
    obtain ⟨n, fr, v, hh, as, t, e0, en, ef, ev, eh, pr, et, ex⟩ := st.hand (show s.ps.hands[i]? = some h.ph by show (s.hands.map Hand.ph)[i]? = _; rw [List.getElem?_map, hi]; rfl)
    refine ⟨_, rfl, L.m, L.dx, _, rfl, e1, f_none (by decide +kernel), _, rfl, L.m, L.dx, L.P, L.R, a, L.An, L.De, s.stale, i, ls, rfl, e1, p1, by omega, ?_⟩
    rw [← ph_mark] at fin
    exact ⟨_, rfl, L.m, _, L.dx, _, _, rfl, e1, T.cl, T.nS, f_state, a, _, 5, _, rfl, rfl, SqT.of e0, rfl, _, rfl, hh, _, (i : Int), .ref t, rfl, rfl, SqT.of eh, at_ref et, t, _, 6, _, rfl, rfl, SqT.of ex, rfl, fin⟩
end
end Sk


/-! played and whole. -/
namespace Sk
open PySem PySem.Spec PyProof.Rows L2
/-- what is handed in -/
structure Given (K : PySem.W.Frag) (H : Hp) (a p rl : Addr) (xs : List Int) (ps : List (List Deed)) (r : Rule) : Prop where
  vals : SqL K H a (xs.map V.int)
  fv : FitV xs
  pg : Progs K H p ps
  ft : Fit ps
  ru : RuleAt H rl r
  rf : r.fit ps.length
theorem Given.same {K : PySem.W.Frag} {H H' : Hp} {a p rl : Addr} {xs : List Int} {ps : List (List Deed)} {r : Rule} (G : Given K H a p rl xs ps r) (s : Same H H') : Given K H' a p rl xs ps r := ⟨s.seq G.vals, G.fv, G.pg.same s, G.ft, G.ru.same s, G.rf⟩
theorem fit_pos {n : Nat} {r : Rule} (h : r.fit n) : r.pos := fun m e => by
  subst e
  exact h.1
/-- tuples of what is told, in a list -/
def ToldAt (H : Hp) (D : Addr) (sts : List Stp) : Prop := ∃ ts : List Addr, H D = some (.lst (ts.map V.ref)) ∧ Paired (fun t st => H t = some (.tup (Stp.row st))) ts sts
def spPlayed (K : PySem.W.Frag) : Sp := fun vs H Q _ => ∃ (a p rl wv : Addr) (xs : List Int) (ps : List (List Deed)) (r : Rule) (ws : List Nat), vs = [.ref a, .ref p, .ref rl, .ref wv] ∧ Given K H a p rl xs ps r ∧ SqL K H wv (vN ws) ∧ (∀ i ∈ ws, i < ps.length) ∧ ws.length ≤ 1000 ∧
  ∀ D H', Same H H' → H D = none → ToldAt H' D (play r (Mach.begun xs ps) ws).1 → Q (.ref D) H'
theorem kept_same {L : ML} {F H H' : Hp} (b : Born F L) (s : Same F H) (k : Kept2 L H H') : Same F H' := fun a o e => k a o (fun z => by
  rw [b a (List.mem_cons_of_mem _ z)] at e
  cases e) (s a o e)
theorem not_own {K : PySem.W.Frag} {H : Hp} {C D : Addr} {r : Rule} {L : ML} {S : PSt} {ps : List (List Deed)} {sd : List (List V)} {es : List (Nat × Nat)} {b : Bool} (M : MacP K H C r L S ps sd es b) (n : H D = none) : D ∉ L.An :: L.own := fun z => by
  rcases List.mem_cons.mp z with q | q
  · rw [q, M.ans] at n
    cases n
  · obtain ⟨o, e, _⟩ := M.own q
    rw [n] at e
    cases e
/-- another thing is written -/
theorem MacP.other {K : PySem.W.Frag} {H : Hp} {C D : Addr} {r : Rule} {L : ML} {S : PSt} {ps : List (List Deed)} {sd : List (List V)} {es : List (Nat × Nat)} {b : Bool} {o u : HO} (M : MacP K H C r L S ps sd es b) (n : D ∉ L.An :: L.own) (e : H D = some o) (m : HO.mut o = true) : MacP K (upd H D u) C r L S ps sd es b :=
  M.frame (.upd e m) fun x hx v z => by
    have ne : x ≠ D := fun q => n (by rw [← q]; exact hx)
    rw [upd_ne ne]
    exact z
theorem play_take {r : Rule} {s : Mach} {ws : List Nat} {k i : Nat} (h : ws[k]? = some i) : play r s (ws.take (k + 1)) = ((play r s (ws.take k)).1 ++ [(turn r (play r s (ws.take k)).2 i).1], (turn r (play r s (ws.take k)).2 i).2) := by
  rw [List.take_add_one, h]
  show play r s (ws.take k ++ [i]) = _
  rw [play_append]
  rfl
theorem hand_at {r : Rule} {s : Mach} {w : List Nat} {i : Nat} (h : i < s.hands.length) : ∃ g, (play r s w).2.hands[i]? = some g := by
  have : i < (play r s w).2.hands.length := by rw [play_many]; exact h
  exact ⟨_, List.getElem?_eq_getElem this⟩
end Sk


namespace Sk
open PySem PySem.Spec PyProof.Rows L2
section
variable {r : Rule}
theorem rank_first (top count i : Nat) (ds : List Deed) : rank r top count i (Hand.new ds) ≤ 6 := by
  unfold rank Hand.new
  dsimp only
  split
  · omega
  · simp
  · split <;> omega
theorem costs_le : ∀ ds : List Deed, costs ds ≤ 6 * ds.length
  | [] => Nat.le_refl _
  | d :: ds => by
    have ih := costs_le ds
    have hd : costD d ≤ 6 := by cases d <;> simp [costD]
    show costD d + costs ds ≤ 6 * (ds.length + 1)
    omega
theorem psi_le {n top count c : Nat} : ∀ {hs : List Hand} {k : Nat}, (∀ h ∈ hs, ∀ j, psi1 r n top count j h ≤ c) → psi r n top count k hs ≤ c * hs.length
  | [], _, _ => Nat.zero_le _
  | h :: hs, k, q => by
    have h1 := q h List.mem_cons_self k
    have ih := psi_le (hs := hs) (k := k + 1) fun g hg j => q g (List.mem_cons_of_mem _ hg) j
    show psi1 r n top count k h + psi r n top count (k + 1) hs ≤ c * (hs.length + 1)
    rw [Nat.mul_succ]
    omega
theorem todo_begun (xs : List Int) (ps : List (List Deed)) (h3 : ps.length ≤ 3) (h4 : ∀ ds ∈ ps, ds.length ≤ 4) : (Mach.begun xs ps).toDo r ≤ 252 := by
  have hl : (Mach.begun xs ps).hands.length = ps.length := List.length_map ..
  unfold Mach.toDo
  refine Nat.le_trans (psi_le (c := 84) fun h hm j => ?_) (by rw [hl]; omega)
  obtain ⟨ds, hd, e⟩ := List.mem_map.mp (show h ∈ ps.map Hand.new from hm)
  have l4 := h4 ds hd
  unfold psi1
  rw [hl, ← e]
  have a1 := rank_first (r := r) (Mach.begun xs ps).top (Mach.begun xs ps).count j ds
  have a2 := costs_le ((Hand.new ds).deeds.drop ((Hand.new ds).at_ + 1))
  have a3 : ((Hand.new ds).deeds.drop ((Hand.new ds).at_ + 1)).length ≤ 3 := by
    rw [List.length_drop]
    show ds.length - 1 ≤ 3
    omega
  have a4 : left (Hand.new ds) ≤ 4 := by
    unfold left
    show ds.length - _ ≤ 4
    omega
  have a5 : 5 * ps.length * left (Hand.new ds) ≤ 15 * 4 := Nat.mul_le_mul (by omega) a4
  omega
theorem rounds_step {n : Nat} {s : Mach} (B : Base s) (nd : s.done = false) (h : s.toDo r ≤ n) : rounds r n s = rounds r ((s.round r).toDo r) (s.round r) := by
  have key : ∀ (n m : Nat) (s : Mach), Base s → s.toDo r ≤ n → s.toDo r ≤ m → rounds r n s = rounds r m s := by
    intro n
    induction n with
    | zero =>
      intro m s B h1 h2
      have d : s.done = true := by
        cases q : s.done with
        | true => rfl
        | false =>
          have := round_lt (r := r) B q
          omega
      cases m with
      | zero => rfl
      | succ m =>
        unfold rounds
        rw [if_pos d]
    | succ n ih =>
      intro m s B h1 h2
      by_cases d : s.done = true
      · cases m with
        | zero =>
          unfold rounds
          rw [if_pos d]
        | succ m =>
          unfold rounds
          rw [if_pos d, if_pos d]
      · have d2 : s.done = false := by simpa using d
        have lt := round_lt (r := r) B d2
        cases m with
        | zero => omega
        | succ m =>
          unfold rounds
          rw [if_neg d, if_neg d]
          exact ih m _ B.play (by omega) (by omega)
  have lt := round_lt (r := r) B nd
  cases n with
  | zero => omega
  | succ n =>
    rw [show rounds r (n + 1) s = if s.done = true then s else rounds r n (s.round r) from rfl, if_neg (by rw [nd]; decide)]
    exact key _ _ _ B.play (by omega) (Nat.le_refl _)
theorem rounds_end {n : Nat} {s : Mach} (d : s.done = true) : rounds r n s = s := by
  cases n with
  | zero => rfl
  | succ n =>
    unfold rounds
    rw [if_pos d]
end
end Sk


/-! Rounds by which all rest; told as data. -/
namespace Sk
open PySem PySem.Spec PyProof.Rows L2
def Stp.isRests : Stp → Bool
  | .rests => true
  | _ => false
section
variable {r : Rule} {s : Mach} {i : Nat}
theorem rest_done (d : s.done = true) : turn r s i = (.rests, s) := by
  unfold turn
  split
  · rfl
  · rename_i h hi
    have := of_decide_eq_true (List.all_eq_true.mp d h (List.mem_of_getElem? hi))
    unfold go
    rw [List.getElem?_eq_none_iff.mpr this]
theorem rest_of (h : (turn r s i).1.isRests = true) : (turn r s i).2 = s ∧ ∀ g, s.hands[i]? = some g → g.deeds.length ≤ g.at_ := by
  unfold turn at h ⊢
  split at h
  · rename_i e
    refine ⟨rfl, fun g hg => ?_⟩
    rw [e] at hg
    cases hg
  · rename_i h0 e
    have k := go_kind r s i h0
    have : go r s i h0 = (.rests, s) ∧ h0.deeds[h0.at_]? = none := by
      generalize hg : go r s i h0 = o at h k ⊢
      obtain ⟨st, s2⟩ := o
      dsimp only at h k ⊢
      cases k with
      | rests q => exact ⟨rfl, q⟩
      | _ => cases h
    rw [this.1]
    refine ⟨rfl, fun g hg => ?_⟩
    rw [e] at hg
    have e3 := Option.some.inj hg
    subst e3
    exact List.getElem?_eq_none_iff.mp this.2
theorem play_done (d : s.done = true) : ∀ w : List Nat, play r s w = (List.replicate w.length .rests, s)
  | [] => rfl
  | i :: w => by
    show ((turn r s i).1 :: (play r (turn r s i).2 w).1, (play r (turn r s i).2 w).2) = _
    rw [rest_done d, play_done d w]
    rfl
theorem all_rest : ∀ {w : List Nat} {s : Mach}, (play r s w).1.all Stp.isRests = true → (play r s w).2 = s ∧ ∀ i ∈ w, ∀ g, s.hands[i]? = some g → g.deeds.length ≤ g.at_
  | [], s, _ => ⟨rfl, fun i h => by cases h⟩
  | i :: w, s, h => by
    have h : ((turn r s i).1.isRests && (play r (turn r s i).2 w).1.all Stp.isRests) = true := h
    obtain ⟨h1, h2⟩ := Bool.and_eq_true_iff.mp h
    obtain ⟨r1, r2⟩ := rest_of h1
    rw [r1] at h2
    obtain ⟨a1, a2⟩ := all_rest h2
    refine ⟨?_, fun j hj g hg => ?_⟩
    · show (play r (turn r s i).2 w).2 = s
      rw [r1]
      exact a1
    · rcases List.mem_cons.mp hj with q | q
      · exact r2 g (q ▸ hg)
      · exact a2 j q g hg
/-- some hand of a round does not rest, as long as not all is done -/
theorem round_rests : (play r s (List.range s.hands.length)).1.all Stp.isRests = s.done := by
  cases d : s.done with
  | true =>
    rw [play_done d]
    exact List.all_eq_true.mpr fun x hx => by
      rw [(List.mem_replicate.mp hx).2]
      rfl
  | false =>
    rw [Bool.eq_false_iff]
    intro h
    obtain ⟨_, a⟩ := all_rest h
    have : s.done = true := List.all_eq_true.mpr fun g hg => by
      obtain ⟨k, hk, ek⟩ := List.mem_iff_getElem.mp hg
      exact decide_eq_true (a k (List.mem_range.mpr hk) g (by rw [List.getElem?_eq_getElem hk, ek]))
    rw [d] at this
    cases this
theorem eqv_rests {st : Stp} : PyData.eqv st.dat (.tuple [.str "rests"]) = st.isRests := by
  unfold Stp.dat
  rw [eqv_two]
  cases st with
  | rests => decide +kernel
  | takes c => rw [show ((Stp.word (.takes c)) == ("rests" : Str)) = false from (by decide +kernel : (("takes" : Str) == ("rests" : Str)) = false), Bool.false_and]; rfl
  | reads c => rw [show ((Stp.word (.reads c)) == ("rests" : Str)) = false from (by decide +kernel : (("reads" : Str) == ("rests" : Str)) = false), Bool.false_and]; rfl
  | ends c => rw [show ((Stp.word (.ends c)) == ("rests" : Str)) = false from (by decide +kernel : (("ends" : Str) == ("rests" : Str)) = false), Bool.false_and]; rfl
  | links c => rw [show ((Stp.word (.links c)) == ("rests" : Str)) = false from (by decide +kernel : (("links" : Str) == ("rests" : Str)) = false), Bool.false_and]; rfl
  | marks c => rw [show ((Stp.word (.marks c)) == ("rests" : Str)) = false from (by decide +kernel : (("marks" : Str) == ("rests" : Str)) = false), Bool.false_and]; rfl
  | looks c => rw [show ((Stp.word (.looks c)) == ("rests" : Str)) = false from (by decide +kernel : (("looks" : Str) == ("rests" : Str)) = false), Bool.false_and]; rfl
  | follows c => rw [show ((Stp.word (.follows c)) == ("rests" : Str)) = false from (by decide +kernel : (("follows" : Str) == ("rests" : Str)) = false), Bool.false_and]; rfl
  | exchanges c => rw [show ((Stp.word (.exchanges c)) == ("rests" : Str)) = false from (by decide +kernel : (("exchanges" : Str) == ("rests" : Str)) = false), Bool.false_and]; rfl
  | misses => rw [show ((Stp.word .misses) == ("rests" : Str)) = false from (by decide +kernel : (("misses" : Str) == ("rests" : Str)) = false), Bool.false_and]; rfl
end
end Sk


/-! What stands in lists and tuples, as data. -/
namespace Sk
open PySem PySem.Spec PyProof.Rows L2
/-- data of a depth of at most k that can be compared -/
structure Plain (k : Nat) (d : PyData) : Prop where
  lay : d.canLay0 = true
  dep : d.depth ≤ k
theorem layAll : ∀ {ds : List PyData}, (∀ d ∈ ds, d.canLay0 = true) → PyData.canLayAll0 ds = true
  | [], _ => rfl
  | d :: ds, h => by
    show (PyData.canLay0 d && PyData.canLayAll0 ds) = true
    rw [h d List.mem_cons_self, layAll fun x hx => h x (List.mem_cons_of_mem _ hx)]
    rfl
theorem depAll {k : Nat} : ∀ {ds : List PyData}, (∀ d ∈ ds, d.depth ≤ k) → PyData.depthAll ds ≤ k
  | [], _ => Nat.zero_le _
  | d :: ds, h => by
    have h1 := h d List.mem_cons_self
    have h2 := depAll (ds := ds) fun x hx => h x (List.mem_cons_of_mem _ hx)
    show max (PyData.depth d) (PyData.depthAll ds) ≤ k
    omega
theorem Plain.int (k : Nat) (i : Int) : Plain k (.int i) := ⟨rfl, Nat.zero_le _⟩
theorem Plain.non (k : Nat) : Plain k .none := ⟨rfl, Nat.zero_le _⟩
theorem Plain.bl (k : Nat) (b : Bool) : Plain k (.bool b) := ⟨rfl, Nat.zero_le _⟩
theorem Plain.str (k : Nat) {x : Str} (h : PyData.canLay0 (.str x) = true) : Plain k (.str x) := ⟨h, Nat.zero_le _⟩
theorem Plain.lst {k : Nat} {ds : List PyData} (h : ∀ d ∈ ds, Plain k d) : Plain (k + 1) (.list ds) := ⟨layAll fun d hd => (h d hd).lay, Nat.succ_le_succ (depAll fun d hd => (h d hd).dep)⟩
theorem Plain.tup {k : Nat} {ds : List PyData} (h : ∀ d ∈ ds, Plain k d) : Plain (k + 1) (.tuple ds) := ⟨layAll fun d hd => (h d hd).lay, Nat.succ_le_succ (depAll fun d hd => (h d hd).dep)⟩
theorem Plain.shaped {k : Nat} {d : PyData} (h : Plain k d) (l : k ≤ 64) : SeqAt.shaped d = true := shape_of h.lay (Nat.le_trans h.dep l)
theorem Plain.self {k : Nat} {d : PyData} (h : Plain k d) : PyData.eqv d d = true := SeqAt.eqv_refl d h.lay
theorem Plain.ans (k : Nat) {a : V} (h : IsAns a) : Plain k (ansD a) := ⟨(ans_lay h).1, by rw [(ans_lay h).2]; exact Nat.zero_le _⟩
theorem dp_of {K : PySem.W.Frag} {H : Hp} : ∀ {vs : List V} {ds : List PyData}, Paired (fun v d => Dp K H v d) vs ds → DpAll K H vs ds
  | _, _, .nil => .nil
  | _, _, .cons h hs => .cons h (dp_of hs)
theorem paired_mapL {α β γ : Type} {R : γ → β → Prop} (f : α → γ) : ∀ {as : List α} {bs : List β}, Paired (fun a b => R (f a) b) as bs → Paired R (as.map f) bs
  | _, _, .nil => .nil
  | _, _, .cons h hs => .cons h (paired_mapL f hs)
theorem paired_mapR {α β γ : Type} {R : α → γ → Prop} (f : β → γ) : ∀ {as : List α} {bs : List β}, Paired (fun a b => R a (f b)) as bs → Paired R as (bs.map f)
  | _, _, .nil => .nil
  | _, _, .cons h hs => .cons h (paired_mapR f hs)
theorem paired_self {α β : Type} {R : α → β → Prop} (f : α → β) : ∀ {as : List α}, (∀ a ∈ as, R a (f a)) → Paired R as (as.map f)
  | [], _ => .nil
  | a :: as, h => .cons (h a List.mem_cons_self) (paired_self f fun x hx => h x (List.mem_cons_of_mem _ hx))
/-! ### what is handed in -/
def intsD (xs : List Int) : PyData := .list (xs.map PyData.int)
def natsD (ws : List Nat) : PyData := .list (ws.map fun n : Nat => PyData.int (n : Int))
def deedsD (ds : List Deed) : PyData := .list (ds.map fun d => .tuple (rowD d.row))
def progsD (ps : List (List Deed)) : PyData := .list (ps.map deedsD)
theorem ints_dp {K : PySem.W.Frag} {H : Hp} {a : Addr} {xs : List Int} (h : SqL K H a (xs.map V.int)) : Dp K H (.ref a) (intsD xs) := .lst h (dpAll_ints xs)
theorem nats_dp {K : PySem.W.Frag} {H : Hp} {a : Addr} {ws : List Nat} (h : SqL K H a (vN ws)) : Dp K H (.ref a) (natsD ws) := .lst h (dpAll_nats ws)
theorem rows_dp {K : PySem.W.Frag} {H : Hp} {ts : List Addr} {ds : List Deed} (h : Rows K H ts (ds.map Deed.row)) : DpAll K H (ts.map V.ref) (ds.map fun d => .tuple (rowD d.row)) := by
  have go : ∀ {ts : List Addr} {ds : List Deed}, Paired (fun t r => SqT K H t (rowV r)) ts (ds.map Deed.row) → DpAll K H (ts.map V.ref) (ds.map fun d => .tuple (rowD d.row)) := by
    intro ts ds
    induction ds generalizing ts with
    | nil => intro h; cases h; exact .nil
    | cons d ds ih => intro h; cases h with | cons h hs => exact .cons (row_dp h) (ih hs)
  exact go h
theorem deeds_dp {K : PySem.W.Frag} {H : Hp} {l : Addr} {ds : List Deed} (h : ProgAt K H l ds) : Dp K H (.ref l) (deedsD ds) := by
  obtain ⟨ts, h1, h2⟩ := h
  exact .lst (SqL.of h1) (rows_dp h2)
theorem progs_dp {K : PySem.W.Frag} {H : Hp} {p : Addr} {ps : List (List Deed)} (h : Progs K H p ps) : Dp K H (.ref p) (progsD ps) := by
  obtain ⟨ls, h1, h2⟩ := h
  exact .lst (SqL.of h1) (dp_of (paired_mapL V.ref (paired_mapR deedsD (Paired.mono2 (fun l ds z => deeds_dp z) h2))))
theorem Plain.ints (k : Nat) (xs : List Int) : Plain (k + 1) (intsD xs) := .lst fun d hd => by
  obtain ⟨i, _, e⟩ := List.mem_map.mp hd
  exact e ▸ .int k i
theorem Plain.nats (k : Nat) (ws : List Nat) : Plain (k + 1) (natsD ws) := .lst fun d hd => by
  obtain ⟨i, _, e⟩ := List.mem_map.mp hd
  exact e ▸ .int k i
theorem Plain.row (k : Nat) (d : Deed) : Plain (k + 1) (.tuple (rowD d.row)) := by
  cases d with
  | push v =>
    refine .tup fun x hx => ?_
    have hx : x = .str sPush ∨ x = .int v := by simpa [rowD, Deed.row] using hx
    rcases hx with rfl | rfl
    · exact .str k (by decide +kernel)
    · exact .int k v
  | pop =>
    refine .tup fun x hx => ?_
    have hx : x = .str sPop := by simpa [rowD, Deed.row] using hx
    subst hx
    exact .str k (by decide +kernel)
theorem Plain.deeds (k : Nat) (ds : List Deed) : Plain (k + 2) (deedsD ds) := .lst fun d hd => by
  obtain ⟨i, _, e⟩ := List.mem_map.mp hd
  exact e ▸ .row k i
theorem Plain.progs (k : Nat) (ps : List (List Deed)) : Plain (k + 3) (progsD ps) := .lst fun d hd => by
  obtain ⟨i, _, e⟩ := List.mem_map.mp hd
  exact e ▸ .deeds k i
/-! ### what whole tells -/
def pairD (p : Nat × Nat) : PyData := .tuple [.int (p.1 : Int), .int (p.2 : Int)]
def endsD (es : List (Nat × Nat)) : PyData := .list (es.map pairD)
def saidD (sd : List (List V)) : PyData := .list (sd.map fun l => .list (l.map ansD))
theorem ends_dp {K : PySem.W.Frag} {H : Hp} {o : Addr} {ts : List Addr} {es : List (Nat × Nat)} (h : H o = some (.lst (ts.map V.ref))) (pr : Paired (PairAt H) ts es) : Dp K H (.ref o) (endsD es) :=
  .lst (SqL.of h) (dp_of (paired_mapL V.ref (paired_mapR pairD (Paired.mono2 (fun t p z => .tup (SqT.of z) (.cons (.int _) (.cons (.int _) .nil))) pr))))
theorem said_dp {K : PySem.W.Frag} {H : Hp} {a : Addr} {qs : List Addr} {sd : List (List V)} (h : H a = some (.lst (qs.map V.ref))) (pr : Paired (fun q l => H q = some (.lst l)) qs sd) (ok : ∀ l ∈ sd, ∀ v ∈ l, IsAns v) : Dp K H (.ref a) (saidD sd) := by
  refine .lst (SqL.of h) (dp_of (paired_mapL V.ref (paired_mapR _ ?_)))
  have go : ∀ {qs : List Addr} {sd : List (List V)}, Paired (fun q l => H q = some (.lst l)) qs sd → (∀ l ∈ sd, ∀ v ∈ l, IsAns v) → Paired (fun q (l : List V) => Dp K H (.ref q) (.list (l.map ansD))) qs sd := by
    intro qs sd pr ok
    induction pr with
    | nil => exact .nil
    | cons r rs ih => exact .cons (.lst (SqL.of r) (dp_of (paired_self ansD fun v hv => ans_dp (ok _ List.mem_cons_self v hv)))) (ih fun l hl => ok l (List.mem_cons_of_mem _ hl))
  exact go pr ok
theorem Plain.ends (k : Nat) (es : List (Nat × Nat)) : Plain (k + 2) (endsD es) := .lst fun d hd => by
  obtain ⟨p, _, e⟩ := List.mem_map.mp hd
  rw [← e]
  refine .tup fun x hx => ?_
  have hx : x = .int (p.1 : Int) ∨ x = .int (p.2 : Int) := by simpa using hx
  rcases hx with rfl | rfl <;> exact .int k _
theorem Plain.said (k : Nat) {sd : List (List V)} (ok : ∀ l ∈ sd, ∀ v ∈ l, IsAns v) : Plain (k + 2) (saidD sd) := .lst fun d hd => by
  obtain ⟨l, hl, e⟩ := List.mem_map.mp hd
  rw [← e]
  refine .lst fun x hx => ?_
  obtain ⟨v, hv, e2⟩ := List.mem_map.mp hx
  rw [← e2]
  exact .ans k (ok l hl v hv)
/-- as much as whole tells of a state -/
def outD (s : Mach) (w : List Int) : PyData := .tuple [saidD (s.hands.map Hand.said), endsD s.ends, intsD w, .bool s.stale]
theorem Fits.ints {n : Nat} {xs : List Int} (l : xs.length ≤ 100000) : Fits (n + 2) (intsD xs) := .lst _ (by rw [List.length_map]; exact l) fun d hd => by
  obtain ⟨i, _, e⟩ := List.mem_map.mp hd
  exact e ▸ .int n i
theorem Fits.ends {n : Nat} {es : List (Nat × Nat)} (l : es.length ≤ 100000) : Fits (n + 3) (endsD es) := .lst _ (by rw [List.length_map]; exact l) fun d hd => by
  obtain ⟨p, _, e⟩ := List.mem_map.mp hd
  rw [← e]
  refine .tup _ (by show 2 ≤ 100000; decide) fun x hx => ?_
  have hx : x = .int (p.1 : Int) ∨ x = .int (p.2 : Int) := by simpa using hx
  rcases hx with rfl | rfl <;> exact .int n _
theorem Fits.ans {n : Nat} {v : V} (h : IsAns v) : Fits (n + 1) (ansD v) := by
  rcases h with rfl | rfl | ⟨i, rfl⟩
  · exact .str n _
  · exact .non n
  · exact .int n i
theorem Fits.said {n : Nat} {sd : List (List V)} (l : sd.length ≤ 100000) (l2 : ∀ x ∈ sd, x.length ≤ 100000) (ok : ∀ l ∈ sd, ∀ v ∈ l, IsAns v) : Fits (n + 3) (saidD sd) := .lst _ (by rw [List.length_map]; exact l) fun d hd => by
  obtain ⟨x, hx, e⟩ := List.mem_map.mp hd
  rw [← e]
  refine .lst _ (by rw [List.length_map]; exact l2 x hx) fun y hy => ?_
  obtain ⟨v, hv, e2⟩ := List.mem_map.mp hy
  rw [← e2]
  exact .ans (ok x hx v hv)
theorem Okm.rounds {r : Rule} : ∀ {k n : Nat} {s : Mach}, Okm r n s → ∃ m, m ≤ n + 3 * s.toDo r ∧ Okm r m (rounds r k s)
  | 0, n, s, O => ⟨n, by omega, O⟩
  | k + 1, n, s, O => by
    unfold Sk.rounds
    by_cases d : s.done = true
    · rw [if_pos d]
      exact ⟨n, by omega, O⟩
    · rw [if_neg d]
      have d2 : s.done = false := by simpa using d
      have lt := round_lt (r := r) O.base d2
      have O1 := O.play (w := List.range s.hands.length)
      rw [List.length_range] at O1
      have fw := O.few
      obtain ⟨m, h1, h2⟩ := Okm.rounds (k := k) (show Okm r (n + s.hands.length) (s.round r) from O1)
      exact ⟨m, by omega, h2⟩
theorem Okm.whole {r : Rule} {xs : List Int} {ps : List (List Deed)} {ws : List Nat} (h3 : ps.length ≤ 3) (h4 : ∀ ds ∈ ps, ds.length ≤ 4) : ∃ m, m ≤ xs.length + ws.length + 756 ∧ Okm r m (wholeM r (Mach.begun xs ps) ws) := by
  have O0 := (Okm.begun xs ps h3).play (w := ws) (r := r)
  have td0 : (Sk.play r (Mach.begun xs ps) ws).2.toDo r ≤ 252 := Nat.le_trans (play_le (Base.begun xs ps)) (todo_begun xs ps h3 h4)
  obtain ⟨m, h1, h2⟩ := Okm.rounds (k := (Sk.play r (Mach.begun xs ps) ws).2.toDo r) O0
  exact ⟨m, by omega, h2⟩
end Sk


/-! What several laws want. -/
namespace Sk
open PySem PySem.Spec PyProof.Rows L2
theorem none_back {F H : Hp} {x : Addr} (s : Same F H) (n : H x = none) : F x = none := by
  cases e : F x with
  | none => rfl
  | some o =>
    rw [s _ _ e] at n
    cases n
def rLenOf (K : PySem.W.Frag) : List V → Hp → VK → Prop := fun xs H Q => ∃ p ys, xs = [.ref p] ∧ (SqL K H p ys ∨ SqT K H p ys) ∧ Q (.int ys.length) H
theorem call_lenK {X : Cx} : CallR X (.builtin "len") (rLenOf X.K) := call_len_seq
theorem at_zero {v : V} {l : List V} : atI (v :: l) 0 = some v := atI_nat (j := 0) rfl
theorem at_one {u v : V} {l : List V} : atI (u :: v :: l) 1 = some v := atI_nat (j := 1) rfl
theorem rg_nat : ∀ n : Nat, vN (List.range n) = rgV 0 (n : Int) := fun n => by
  unfold rgV vN
  rw [Int.sub_zero, Int.toNat_natCast]
  exact List.map_congr_left fun i _ => by rw [Int.zero_add]
theorem same_ne {K : PySem.W.Frag} {H : Hp} {x y : V} {d : PyData} {k : Nat} {Q : VK} (p : Plain k d) (l : k ≤ 64) (hx : Dp K H x d) (hy : Dp K H y d) (q : Q (.bl false) H) : rNeD K x y H Q := by
  refine ⟨d, d, hx, hy, p.shaped l, p.shaped l, ?_⟩
  rw [p.self]
  exact q
theorem last_at {l : List V} {v : V} : atI (l ++ [v]) (-1) = some v := by
  unfold atI ixN
  rw [if_neg (by omega), if_pos (by rw [List.length_append]; show -((l.length + 1 : Nat) : Int) ≤ -1; omega)]
  show (l ++ [v])[((-1 : Int) + ((l ++ [v]).length : Nat)).toNat]? = some v
  rw [List.length_append]
  rw [show ((-1 : Int) + ((l.length + [v].length : Nat) : Int)).toNat = l.length from by show ((-1 : Int) + ((l.length + 1 : Nat) : Int)).toNat = _; omega]
  simp
theorem sum_nat : ∀ l : List Nat, ((l.map fun n : Nat => (n : Int))).sum = ((l.sum : Nat) : Int)
  | [] => rfl
  | n :: l => by
    rw [List.map_cons, List.sum_cons, List.sum_cons, sum_nat l]
    omega
theorem dp_anss {K : PySem.W.Frag} {H : Hp} {q : Addr} {l : List V} (e : H q = some (.lst l)) (ok : ∀ v ∈ l, IsAns v) : Dp K H (.ref q) (.list (l.map ansD)) := .lst (SqL.of e) (dp_of (paired_self ansD fun v hv => ans_dp (ok v hv)))
theorem Plain.anss (k : Nat) {l : List V} (ok : ∀ v ∈ l, IsAns v) : Plain (k + 1) (.list (l.map ansD)) := .lst fun d hd => by
  obtain ⟨v, hv, e⟩ := List.mem_map.mp hd
  rw [← e]
  exact .ans k (ok v hv)
def toldD (sts : List Stp) : PyData := .list (sts.map Stp.dat)
theorem told_dp {K : PySem.W.Frag} {H : Hp} {D : Addr} {sts : List Stp} (h : ToldAt H D sts) (ok : ∀ st ∈ sts, st.Ok) : Dp K H (.ref D) (toldD sts) := by
  obtain ⟨ts, e, pr⟩ := h
  refine .lst (SqL.of e) (dp_of (paired_mapL V.ref (paired_mapR _ ?_)))
  have go : ∀ {ts : List Addr} {sts : List Stp}, Paired (fun t st => H t = some (.tup (Stp.row st))) ts sts → (∀ st ∈ sts, st.Ok) → Paired (fun t st => Dp K H (.ref t) (Stp.dat st)) ts sts := by
    intro ts sts pr ok
    induction pr with
    | nil => exact .nil
    | cons r rs ih => exact .cons (stp_dp (ok _ List.mem_cons_self) (SqT.of r)) (ih fun l hl => ok l (List.mem_cons_of_mem _ hl))
  exact go pr ok
theorem Plain.stp (k : Nat) {st : Stp} (ok : st.Ok) : Plain (k + 1) st.dat := by
  have one : ∀ x : PyData, Plain k x → Plain k (.str st.word) → ∀ y ∈ [PyData.str st.word, x], Plain k y := fun x hx hs y hy => by
    have hy : y = .str st.word ∨ y = x := by simpa using hy
    rcases hy with rfl | rfl
    · exact hs
    · exact hx
  have non : Plain k (.str st.word) → ∀ y ∈ [PyData.str st.word], Plain k y := fun hs y hy => by
    have hy : y = .str st.word := by simpa using hy
    subst hy
    exact hs
  have hw : Plain k (.str st.word) := .str k (word_lay st)
  unfold Stp.dat
  cases st with
  | ends a => exact .tup (one _ (.ans k ok) hw)
  | rests => exact .tup (non hw)
  | misses => exact .tup (non hw)
  | looks b => exact .tup (one _ (.bl k b) hw)
  | takes c => exact .tup (one _ (.int k _) hw)
  | reads c => exact .tup (one _ (.int k _) hw)
  | links c => exact .tup (one _ (.int k _) hw)
  | marks c => exact .tup (one _ (.int k _) hw)
  | follows c => exact .tup (one _ (.int k _) hw)
  | exchanges c => exact .tup (one _ (.int k _) hw)
theorem Plain.told (k : Nat) {sts : List Stp} (ok : ∀ st ∈ sts, st.Ok) : Plain (k + 2) (toldD sts) := .lst fun d hd => by
  obtain ⟨st, hs, e⟩ := List.mem_map.mp hd
  exact e ▸ .stp k (ok st hs)
theorem Plain.pair (k : Nat) (p : Nat × Nat) : Plain (k + 1) (pairD p) := .tup fun x hx => by
  have hx : x = .int (p.1 : Int) ∨ x = .int (p.2 : Int) := by simpa using hx
  rcases hx with rfl | rfl <;> exact .int k _
theorem paired_take {α β : Type} {R : α → β → Prop} : ∀ {as : List α} {bs : List β} (k : Nat), Paired R as bs → Paired R (as.take k) (bs.take k)
  | _, _, k, .nil => by rw [List.take_nil, List.take_nil]; exact .nil
  | _, _, 0, .cons _ _ => .nil
  | _, _, k + 1, .cons r rs => .cons r (paired_take k rs)
theorem paired_drop {α β : Type} {R : α → β → Prop} : ∀ {as : List α} {bs : List β} (k : Nat), Paired R as bs → Paired R (as.drop k) (bs.drop k)
  | _, _, k, .nil => by rw [List.drop_nil, List.drop_nil]; exact .nil
  | _, _, 0, .cons r rs => .cons r rs
  | _, _, k + 1, .cons r rs => paired_drop k rs
theorem ToldAt.same {H H' : Hp} {D : Addr} {sts : List Stp} (h : ToldAt H D sts) (s : Same H H') : ToldAt H' D sts := by
  obtain ⟨ts, x1, x2⟩ := h
  exact ⟨ts, s _ _ x1, Paired.mono2 (fun _ _ z => s _ _ z) x2⟩
/-- what the machine's own step keeps -/
theorem Drew.kept {K : PySem.W.Frag} {p a : Addr} {ns : List Int} {F H H' : Hp} {L : ML} (d0 : Dice K F p a ns) (x : Drew K p a ns F H) (b : Born F L) (k : Kept2 L H H') : Drew K p a ns F H' := by
  have nb : ∀ y u, F y = some u → y ∉ L.own := fun y u e z => by
    rw [b y (List.mem_cons_of_mem _ z)] at e
    cases e
  have bt : But p F H' := fun c u q e => k c u (nb c u e) (x.b c u q e)
  obtain ⟨i, m, c, h, r⟩ := x.d.at_
  obtain ⟨l, e⟩ := d0.some
  exact ⟨⟨⟨i, m, c, k p _ (nb p _ e) h, r⟩, d0.sc.but bt⟩, bt⟩
theorem kp_but {p : Addr} {H H' : Hp} {l : List V} (b : But p H H') (e : H p = some (.lst l)) : Kp H H' := fun c o z n => b c o (fun q => by
  rw [q, e] at z
  cases z
  cases n) z
theorem total_le {ps : List (List Deed)} (ft : Fit ps) : total ps ≤ 12 := by
  have go : ∀ (qs : List (List Deed)), (∀ ds ∈ qs, ds.length ≤ 4 ∧ ∀ d ∈ ds, d.fit) → (qs.map List.length).sum ≤ 4 * qs.length := by
    intro qs
    induction qs with
    | nil => exact fun _ => Nat.le_refl _
    | cons q qs ih =>
      intro h
      have a1 := (h q List.mem_cons_self).1
      have a2 := ih fun ds hd => h ds (List.mem_cons_of_mem _ hd)
      rw [List.map_cons, List.sum_cons, List.length_cons]
      omega
  have := go ps ft.2.2
  have := ft.2.1
  unfold total
  omega
theorem deedAt_fit {ps : List (List Deed)} (ft : Fit ps) (e : Nat × Nat) : (deedAt ps e).fit := by
  unfold deedAt
  by_cases h : e.1 < ps.length
  · have m := List.getElem_mem h
    rw [show ps.getD e.1 [] = ps[e.1] from by simp [List.getD, List.getElem?_eq_getElem h]]
    by_cases h2 : e.2 < (ps[e.1]).length
    · rw [show (ps[e.1]).getD e.2 .pop = (ps[e.1])[e.2] from by simp [List.getD, List.getElem?_eq_getElem h2]]
      exact (ft.2.2 _ m).2 _ (List.getElem_mem h2)
    · rw [show (ps[e.1]).getD e.2 .pop = .pop from by simp [List.getD, List.getElem?_eq_none (Nat.le_of_not_lt h2)]]
      trivial
  · rw [show ps.getD e.1 [] = [] from by simp [List.getD, List.getElem?_eq_none (Nat.le_of_not_lt h)]]
    trivial
theorem decided_fit {ps : List (List Deed)} (ft : Fit ps) (es : List (Nat × Nat)) : ∀ d ∈ decided ps es, d.fit := fun d hd => by
  obtain ⟨e, _, q⟩ := List.mem_map.mp hd
  rw [← q]
  exact deedAt_fit ft e
end Sk


/-! Three hands by marks: one holds a mark on the top, one pops and pushes. -/
namespace Sk
open PySem PySem.Spec PyProof.Rows L2
def Stp.isEnds : Stp → Bool
  | .ends _ => true
  | _ => false
def endsIn (l : List Stp) : Nat := (l.filter Stp.isEnds).length
def progs90 (h w m : Nat) : List (List Deed) := (List.replicate 3 ([] : List Deed)).set h [.pop] |>.set w (List.replicate m .pop ++ [.push 9])
def r90 : Rule := .marks [0, 1, 2]
def s90 (h w m : Nat) : Mach := Mach.begun [5, 6, 7, 8] (progs90 h w m)
def t90a (h w m : Nat) : Mach := (turn r90 (s90 h w m) h).2
def t90b (h w m : Nat) : Mach := (turn r90 (t90a h w m) h).2
def t90c (h w m : Nat) : Mach := (play r90 (t90b h w m) (List.replicate (6 * m) w)).2
def t90d (h w m : Nat) : Mach := (turn r90 (t90c h w m) w).2
def t90e (h w m : Nat) : Mach := (turn r90 (t90d h w m) h).2
def told90 (m : Nat) : List Stp := ([.reads 4, .marks 4, .looks true, .follows 3, .exchanges 3, .ends (.int 8), .reads 3, .marks 3, .looks true, .follows 2, .exchanges 2, .ends (.int 7), .reads 2, .marks 2, .looks true, .follows 1, .exchanges 1, .ends (.int 6)] : List Stp).take (6 * m)
structure Facts90 (h w m : Nat) : Prop where
  a : (turn r90 (s90 h w m) h).1 = .reads 4
  b : (turn r90 (t90a h w m) h).1 = .marks 4
  bm : ∃ g, (t90b h w m).hands[h]? = some g ∧ g.mark = 4
  c : (play r90 (t90b h w m) (List.replicate (6 * m) w)).1 = told90 m
  cf : (t90c h w m).free = ([4, 3, 2] : List Nat).take m
  d : (turn r90 (t90c h w m) w).1 = .takes (if 1 < m then 3 else 5)
  e : (turn r90 (t90d h w m) h).1 = .looks false
  ef : (t90e h w m).free = if 1 < m then ([4, 2] : List Nat).take (m - 1) else [4]
theorem facts90 {h w m : Nat} (hh : h < 3) (hw : w < 3) (n : w ≠ h) (m0 : 1 ≤ m) (m3 : m ≤ 3) : Facts90 h w m := by
  have : (h = 0 ∨ h = 1 ∨ h = 2) ∧ (w = 0 ∨ w = 1 ∨ w = 2) ∧ (m = 1 ∨ m = 2 ∨ m = 3) := by omega
  obtain ⟨rfl | rfl | rfl, rfl | rfl | rfl, rfl | rfl | rfl⟩ := this
  all_goals first
    | exact absurd rfl n
    | exact ⟨rfl, rfl, ⟨_, rfl, rfl⟩, rfl, rfl, rfl, rfl, rfl⟩
theorem ends90 {m : Nat} (m0 : 1 ≤ m) (m3 : m ≤ 3) : endsIn (told90 m) = m ∧ (told90 m).length = 6 * m ∧ ∀ j, j < 6 * m → endsIn ((told90 m).take j) < m := by
  have : m = 1 ∨ m = 2 ∨ m = 3 := by omega
  obtain rfl | rfl | rfl := this
  · refine ⟨rfl, rfl, fun j hj => ?_⟩
    have : j = 0 ∨ j = 1 ∨ j = 2 ∨ j = 3 ∨ j = 4 ∨ j = 5 := by omega
    obtain rfl | rfl | rfl | rfl | rfl | rfl := this <;> exact Nat.lt_of_sub_pos (by decide)
  · refine ⟨rfl, rfl, fun j hj => ?_⟩
    have : j = 0 ∨ j = 1 ∨ j = 2 ∨ j = 3 ∨ j = 4 ∨ j = 5 ∨ j = 6 ∨ j = 7 ∨ j = 8 ∨ j = 9 ∨ j = 10 ∨ j = 11 := by omega
    obtain rfl | rfl | rfl | rfl | rfl | rfl | rfl | rfl | rfl | rfl | rfl | rfl := this <;> exact Nat.lt_of_sub_pos (by decide)
  · refine ⟨rfl, rfl, fun j hj => ?_⟩
    have : j = 0 ∨ j = 1 ∨ j = 2 ∨ j = 3 ∨ j = 4 ∨ j = 5 ∨ j = 6 ∨ j = 7 ∨ j = 8 ∨ j = 9 ∨ j = 10 ∨ j = 11 ∨ j = 12 ∨ j = 13 ∨ j = 14 ∨ j = 15 ∨ j = 16 ∨ j = 17 := by omega
    obtain rfl | rfl | rfl | rfl | rfl | rfl | rfl | rfl | rfl | rfl | rfl | rfl | rfl | rfl | rfl | rfl | rfl | rfl := this <;> exact Nat.lt_of_sub_pos (by decide)
end Sk


namespace Sk
open PySem PySem.Spec PyProof.Rows L2
theorem isEnds_eq (st : Stp) : st.isEnds = st.isEnd := by cases st <;> rfl
def spDone90 (K : PySem.W.Frag) (Cm : Addr) : Sp := fun vs H Q _ => ∃ (L : ML) (r : Rule) (n m N i : Nat) (s : Mach), vs = [.ref L.m, .int (i : Int), .int (m : Int)] ∧ MacAt K H Cm r L s ∧ Okm r n s ∧ n ≤ 40000 ∧ r.pos ∧ i < s.hands.length ∧ N ≤ 100 ∧
  endsIn (play r s (List.replicate N i)).1 = m ∧ (∀ j, j < N → endsIn ((play r s (List.replicate N i)).1.take j) < m) ∧
  ∀ D H', Kept2 L H H' → MacAt K H' Cm r L (play r s (List.replicate N i)).2 → D ∉ L.An :: L.own → ToldAt H' D (play r s (List.replicate N i)).1 → Q (.ref D) H'
theorem rep_take (N j i : Nat) : (List.replicate N i).take j = List.replicate (min j N) i := List.take_replicate
theorem play_rep_take {r : Rule} {s : Mach} {i : Nat} {N j : Nat} (h : j ≤ N) : (play r s (List.replicate N i)).1.take j = (play r s (List.replicate j i)).1 := by
  have e : List.replicate N i = List.replicate j i ++ List.replicate (N - j) i := by
    rw [List.replicate_append_replicate]
    congr 1
    omega
  rw [e, play_append]
  have l : (play r s (List.replicate j i)).1.length = j := by rw [play_len, List.length_replicate]
  show ((play r s (List.replicate j i)).1 ++ _).take j = _
  rw [List.take_append_of_le_length (by omega), List.take_of_length_le (by omega)]
section
variable {P : Program} {w : World} {K : PySem.W.Frag} {mg : Str → Option Value} {base : Heap} {Cm : Addr}
theorem scDone90 : FnScope ["_law_machine", "_law_hand", "_law_many", "_law_found"] ["_law_machine", "_law_hand", "_law_many"] (defScope s_law_done) := ⟨rfl, rfl, rfl, by decide +kernel, rfl, by decide +kernel, by decide +kernel⟩
theorem cal_done90 (TM : TxM K mg Cm) (D : DefAt K mg "_law_done" s_law_done) (TI : mg "int" = none) : C8.Cal P w K mg base 7 "_law_done" (spDone90 K Cm) [] := by
  obtain ⟨f, fd, F, g⟩ := D.ex
  have m_turn : C8.Met P w K mg base 6 Cm "turn" (spTurnM K Cm) [] := met_turn TM
  have T : TxK K mg := TM.K
  refine cal_of F g (F.bindsN fun _ _ _ _ _ _ us hl => match us, hl with | [_, _, _], _ => rfl) (fok F scDone90 (fun vs H Q E h => ?_) (fun cdv A outer s0 H vs Q E hr h => ?_))
  · obtain ⟨L, r, n, m, N, i, s, rfl, _⟩ := h
    rfl
  · obtain ⟨L, r, n, m, N, i, s, rfl, M, O, hn, rp, hi, hN, eN, lt, fin⟩ := h
    refine ⟨_, (pss_cons
    (ps_set (i := 3) scDone90.nd rfl (.inl rfl) (pe_lst pa_nil)) (pss_cons
    (ps_while PassesOwn.never (pt_cmpR op_gt (pv 2) pe_int (nomark _)) (pss_cons
    (ps_expr (pe_bm PySem.F.plainAttrs_list PySem.F.slot_list_append PySem.F.type_list_append mt_append (pv 3) (pa_cons (show PE _ _ (tMeth Cm "turn" (spTurnM K Cm) [] C8.E0 (tVar 0) (tCons (tVar 1) tNil)) from C8.pe_mt m_turn hr (by decide) (pv 0) (pa_cons (pv 1) pa_nil)) pa_nil))) (pss_one
    (ps_set (i := 2) scDone90.nd rfl (.inl rfl) (pe_op op_sub (pv 2) (pe_callTy call_int1 (by rfl) T.int (by decide +kernel) (pa_cons (pe_cmpR op_eq (pe_ix ix_tup (pe_ix ix_list (pv 3) (pe_un un_neg pe_int) (fun _ _ => rfl)) pe_int (fun _ _ => rfl)) pe_str (nomark _)) pa_nil))))))) (pss_one
    (ps_ret (pv 3))))), ?_⟩
    refine ⟨Nat.zero_le _, fun D nD => ?_⟩
    have sD := same_upd (o := .lst ([] : List V)) nD
    have nDo := not_own M nD
    refine ⟨fun k σ H' => ∃ j : Nat, j ≤ N ∧ k = N - j ∧ σ = [some (.ref L.m), some (.int (i : Int)), some (.int ((m : Int) - (endsIn (play r s (List.replicate j i)).1 : Nat))), some (.ref D)] ∧ Kept2 L H H' ∧ MacAt K H' Cm r L (play r s (List.replicate j i)).2 ∧ ToldAt H' D (play r s (List.replicate j i)).1,
      ⟨_, 0, Nat.zero_le _, rfl, (by rw [show ((m : Int) - ((endsIn (play r s (List.replicate 0 i)).1 : Nat) : Int)) = (m : Int) from by show (m : Int) - ((0 : Nat) : Int) = _; omega]; rfl), .of sD, M.same sD, [], upd_same, .nil⟩, ?_⟩
    rintro k σ H' ⟨j, jN, rfl, rfl, kp, M1, ts, eD, pt⟩
    refine ⟨_, rfl, _, _, rfl, rfl, _, rfl, ?_⟩
    have tl := paired_len pt
    rw [play_len, List.length_replicate] at tl
    by_cases q : j < N
    · have l1 := lt j q
      rw [play_rep_take (by omega)] at l1
      rw [decide_eq_true (by show (0 : Int) < _; omega)]
      obtain ⟨h, hh⟩ := hand_at (r := r) (s := s) (w := List.replicate j i) hi
      have O1 := O.play (w := List.replicate j i)
      rw [List.length_replicate] at O1
      obtain ⟨a2, e2, _⟩ := M1.ins
      refine iteT ⟨fun σ' H2 => σ' = [some (.ref L.m), some (.int (i : Int)), some (.int ((m : Int) - (endsIn (play r s (List.replicate (j + 1) i)).1 : Nat))), some (.ref D)] ∧ Kept2 L H H2 ∧ MacAt K H2 Cm r L (play r s (List.replicate (j + 1) i)).2 ∧ ToldAt H2 D (play r s (List.replicate (j + 1) i)).1, ?_, ?_⟩
      · rintro σ' H2 ⟨rfl, k2, M2, t2⟩
        exact ⟨N - (j + 1), by omega, j + 1, by omega, rfl, rfl, k2, M2, t2⟩
      · refine ⟨_, rfl, .inl ⟨rfl, _, SqL.of eD⟩, _, rfl, L.m, L.dx, _, rfl, e2, f_none (by decide +kernel), _, rfl, L, r, _, _, i, h, rfl, M1, hh, O1, by omega, rp, fun t H3 M3 k3 et => ?_⟩
        have eD3 := k3 D _ (fun z => nDo (List.mem_cons_of_mem _ z)) eD
        have k23 := M1.kp k3
        refine ⟨D, _, _, rfl, rfl, eD3, by rw [List.length_map, tl, sizeLine_eq]; omega, ?_⟩
        have est : play r s (List.replicate (j + 1) i) = ((play r s (List.replicate j i)).1 ++ [(turn r (play r s (List.replicate j i)).2 i).1], (turn r (play r s (List.replicate j i)).2 i).2) := by
          rw [List.replicate_succ', play_append]
          rfl
        have eD4 : upd H3 D (.lst (ts.map V.ref ++ [V.ref t])) D = some (.lst (ts.map V.ref ++ [V.ref t])) := upd_same
        have kD : Kp H3 (upd H3 D (.lst (ts.map V.ref ++ [V.ref t]))) := .upd eD3 rfl
        have et4 := kD _ _ et rfl
        rw [row_cons] at et4
        refine ⟨_, rfl, _, rfl, _, rfl, D, _, -1, .ref t, rfl, rfl, SqL.of eD4, last_at, _, _, _, _, rfl, rfl, SqT.of et4, at_zero, rfl, .inr ⟨_, rfl, ?_⟩⟩
        rw [word_end]
        refine ⟨_, _, rfl, rfl, ?_⟩
        refine ⟨?_, fun x o hx e => ?_, ?_, ?_⟩
        · rw [est]
          have ee : endsIn ((play r s (List.replicate j i)).1 ++ [(turn r (play r s (List.replicate j i)).2 i).1]) = endsIn (play r s (List.replicate j i)).1 + (if (turn r (play r s (List.replicate j i)).2 i).1.isEnd = true then 1 else 0) := by
            unfold endsIn
            rw [List.filter_append, List.length_append]
            congr 1
            rw [List.filter_cons, isEnds_eq]
            split <;> rfl
          rw [ee]
          have go : ∀ (b : Bool) (c : Nat), ((m : Int) - (c : Int) - (if b = true then (1 : Int) else 0)) = (m : Int) - ((c + (if b = true then 1 else 0) : Nat) : Int) := fun b c => by
            cases b with
            | true => show (m : Int) - (c : Int) - 1 = (m : Int) - ((c + 1 : Nat) : Int); omega
            | false => show (m : Int) - (c : Int) - 0 = (m : Int) - ((c + 0 : Nat) : Int); omega
          rw [← go]
          rfl
        · rw [upd_ne (ne_of_none e nD)]
          exact (kp.trans k3) x o hx e
        · rw [est]
          exact M3.other nDo eD3 rfl
        · rw [est]
          exact ⟨ts ++ [t], by rw [upd_same, List.map_append]; rfl, Paired.app (Paired.mono2 (fun _ _ z => kD _ _ (k23 _ _ z rfl) rfl) pt) (.cons (kD _ _ et rfl) .nil)⟩
    · have ej : j = N := by omega
      subst ej
      rw [eN, decide_eq_false (by omega)]
      exact iteF ⟨_, rfl, fin D H' kp M1 nDo ⟨ts, eD, pt⟩⟩
end
end Sk


namespace Sk
open PySem PySem.Spec PyProof.Rows L2
/-- rows in lists in a list at D, none of them the dice -/
def PL (K : PySem.W.Frag) (H : Hp) (p D : Addr) (rss : List (List Row)) : Prop := ∃ ls : List Addr, H D = some (.lst (ls.map V.ref)) ∧ D ≠ p ∧ (∀ l ∈ ls, l ≠ p ∧ l ≠ D) ∧ Paired (fun l rs => ∃ ts : List Addr, H l = some (.lst (ts.map V.ref)) ∧ Rows K H ts rs) ls rss
section
variable {K : PySem.W.Frag} {H H' : Hp} {p D : Addr} {rss : List (List Row)}
theorem paired_imp {α β : Type} {R S : α → β → Prop} : ∀ {as : List α} {bs : List β}, (∀ a ∈ as, ∀ b, R a b → S a b) → Paired R as bs → Paired S as bs
  | _, _, _, .nil => .nil
  | _, _, k, .cons h hs => .cons (k _ List.mem_cons_self _ h) (paired_imp (fun a ha => k a (List.mem_cons_of_mem _ ha)) hs)
theorem PL.same (h : PL K H p D rss) (s : Same H H') : PL K H' p D rss := by
  obtain ⟨ls, h1, h2, h3, h4⟩ := h
  refine ⟨ls, s _ _ h1, h2, h3, Paired.mono2 (fun l rs z => ?_) h4⟩
  obtain ⟨ts, z1, z2⟩ := z
  exact ⟨ts, s _ _ z1, z2.kp (Kp.of s)⟩
theorem PL.but {l : List V} (h : PL K H p D rss) (e : H p = some (.lst l)) (b : But p H H') : PL K H' p D rss := by
  obtain ⟨ls, h1, h2, h3, h4⟩ := h
  refine ⟨ls, b _ _ h2 h1, h2, h3, paired_imp (fun l hl rs z => ?_) h4⟩
  obtain ⟨ts, z1, z2⟩ := z
  exact ⟨ts, b _ _ (h3 l hl).1 z1, z2.mono fun t xs z => sqt_but b e z⟩
theorem PL.rows (h : PL K H p D rss) : PRows K H D rss := by
  obtain ⟨ls, h1, h2, h3, h4⟩ := h
  refine ⟨ls, SqL.of h1, Paired.mono2 (fun l rs z => ?_) h4⟩
  obtain ⟨ts, z1, z2⟩ := z
  exact ⟨ts, SqL.of z1, z2⟩
theorem PL.len (h : PL K H p D rss) : ∃ ls : List Addr, H D = some (.lst (ls.map V.ref)) ∧ ls.length = rss.length := by
  obtain ⟨ls, h1, h2, h3, h4⟩ := h
  exact ⟨ls, h1, paired_len h4⟩
/-- one list put for another -/
theorem PL.put {i : Nat} {l : Addr} {ts : List Addr} {rs : List Row} (h : PL K H p D rss) (n1 : l ≠ p) (n2 : l ≠ D) (e : H l = some (.lst (ts.map V.ref))) (r : Rows K H ts rs) :
    ∃ xs : List V, H D = some (.lst xs) ∧ xs.length = rss.length ∧ PL K (upd H D (.lst (xs.set i (.ref l)))) p D (rss.set i rs) := by
  obtain ⟨ls, h1, h2, h3, h4⟩ := h
  have k : ∀ o, Kp H (upd H D (.lst o)) := fun o => .upd h1 rfl
  refine ⟨_, h1, by rw [List.length_map]; exact paired_len h4, ls.set i l, ?_, h2, fun x hx => ?_, ?_⟩
  · rw [upd_same, List.map_set]
  · rcases List.mem_or_eq_of_mem_set hx with q | q
    · exact h3 x q
    · rw [q]; exact ⟨n1, n2⟩
  · refine paired_set ⟨ts, ?_, r.kp (k _)⟩ (paired_imp (fun l' hl' rs' z => ?_) h4)
    · obtain ⟨us, z1, z2⟩ := z
      exact ⟨us, by rw [upd_ne (h3 l' hl').2]; exact z1, z2.kp (k _)⟩
    · rw [upd_ne n2]; exact e
theorem PL.add {l : Addr} {ts : List Addr} {rs : List Row} (h : PL K H p D rss) (n1 : l ≠ p) (n2 : l ≠ D) (e : H l = some (.lst (ts.map V.ref))) (r : Rows K H ts rs) :
    ∃ xs : List V, H D = some (.lst xs) ∧ xs.length = rss.length ∧ PL K (upd H D (.lst (xs ++ [.ref l]))) p D (rss ++ [rs]) := by
  obtain ⟨ls, h1, h2, h3, h4⟩ := h
  have k : ∀ o, Kp H (upd H D (.lst o)) := fun o => .upd h1 rfl
  refine ⟨_, h1, by rw [List.length_map]; exact paired_len h4, ls ++ [l], ?_, h2, fun x hx => ?_, ?_⟩
  · rw [upd_same, List.map_append]
    rfl
  · rcases List.mem_append.mp hx with q | q
    · exact h3 x q
    · rw [List.mem_singleton.mp q]; exact ⟨n1, n2⟩
  · refine Paired.app (paired_imp (fun l' hl' rs' z => ?_) h4) (.cons ⟨ts, by rw [upd_ne n2]; exact e, r.kp (k _)⟩ .nil)
    obtain ⟨us, z1, z2⟩ := z
    exact ⟨us, by rw [upd_ne (h3 l' hl').2]; exact z1, z2.kp (k _)⟩
theorem PL.get {i : Nat} {rs : List Row} (h : PL K H p D rss) (e : rss[i]? = some rs) : ∃ (xs : List V) (l : Addr) (ts : List Addr), H D = some (.lst xs) ∧ atI xs (i : Int) = some (.ref l) ∧ l ≠ p ∧ H l = some (.lst (ts.map V.ref)) ∧ Rows K H ts rs := by
  obtain ⟨ls, h1, h2, h3, h4⟩ := h
  obtain ⟨l, el, ts, z1, z2⟩ := paired_get h4 e
  exact ⟨_, l, ts, h1, at_ref el, (h3 l (List.mem_of_getElem? el)).1, z1, z2⟩
theorem PL.progs {ps : List (List Deed)} (h : PL K H p D (ps.map fun ds => ds.map Deed.row)) : Progs K H D ps := by
  obtain ⟨ls, h1, h2, h3, h4⟩ := h
  refine ⟨ls, h1, ?_⟩
  clear h1 h3
  have go : ∀ {ls : List Addr} {ps : List (List Deed)}, Paired (fun l rs => ∃ ts : List Addr, H l = some (.lst (ts.map V.ref)) ∧ Rows K H ts rs) ls (ps.map fun ds => ds.map Deed.row) → Paired (ProgAt K H) ls ps := by
    intro ls ps
    induction ps generalizing ls with
    | nil => intro q; cases q; exact .nil
    | cons ds ps ih =>
      intro q
      cases q with
      | cons a b => exact .cons a (ih b)
  exact go h4
end
/-! ### which is refused -/
def OkRows (rs : List Row) : Prop := rs.length ≤ 4 ∧ ∀ r ∈ rs, okRow r = true
theorem badHand_set : ∀ {rss : List (List Row)} {i k : Nat} {rs : List Row}, (∀ x ∈ rss, OkRows x) → i < rss.length → badHand k (rss.set i rs) = badHand (k + i) (rs :: rss.drop (i + 1))
  | [], i, k, rs, _, h => absurd h (Nat.not_lt_zero _)
  | x :: rss, 0, k, rs, _, _ => rfl
  | x :: rss, i + 1, k, rs, ok, h => by
    obtain ⟨o1, o2⟩ := ok x List.mem_cons_self
    show badHand k (x :: rss.set i rs) = _
    have e : badHand k (x :: rss.set i rs) = badHand (k + 1) (rss.set i rs) := by
      conv => lhs; unfold badHand
      rw [if_neg (by omega), firstNot_all o2]
    rw [e, badHand_set (fun y hy => ok y (List.mem_cons_of_mem _ hy)) (by simpa using h)]
    rw [show k + 1 + i = k + (i + 1) by omega]
    rfl
theorem badProg_set {rss : List (List Row)} {i : Nat} {rs : List Row} (h3 : rss.length = 3) (ok : ∀ x ∈ rss, OkRows x) (hi : i < 3) : badProg (rss.set i rs) = if 4 < rs.length then some (i, 4) else match firstNot okRow rs with
    | some j => some (i, j)
    | none => badHand (i + 1) (rss.drop (i + 1)) := by
  unfold badProg
  rw [if_neg (by rw [List.length_set]; omega), badHand_set ok (by omega), Nat.zero_add]
  rfl
theorem okRows_push (n : Nat) (v : Int) (hn : n ≤ 4) (h : valB v = true) : OkRows (List.replicate n (some (sPush, [v]))) := ⟨by rw [List.length_replicate]; exact hn, fun r hr => by
  rw [(List.mem_replicate.mp hr).2]
  simp [okRow, h]⟩
theorem rep_flat {α : Type} (a : α) : ∀ n : Nat, (List.replicate n [a]).flatten = List.replicate n a
  | 0 => rfl
  | n + 1 => by rw [List.replicate_succ, List.flatten_cons, rep_flat a n, List.replicate_succ]; rfl
theorem rep_rows {K : PySem.W.Frag} {H : Hp} {t : Addr} {r : Row} (h : SqT K H t (rowV r)) : ∀ n : Nat, Rows K H (List.replicate n t) (List.replicate n r)
  | 0 => .nil
  | n + 1 => .cons h (rep_rows h n)
/-- the odd ones -/
def odd90 : List Row := [some ("pull", []), none, some (sPush, [100]), some (sPush, [])]
theorem odd90_bad : ∀ r ∈ odd90, okRow r = false ∧ Lay r := by
  have h : (odd90.all fun r => !okRow r && SeqAt.shaped (.tuple (rowD r))) = true := by decide +kernel
  intro r hr
  have := List.all_eq_true.mp h r hr
  obtain ⟨h1, h2⟩ := Bool.and_eq_true_iff.mp this
  exact ⟨by simpa using h1, h2⟩
/-- the rows with one that cannot be -/
def rows90 (n : Nat) (r : Row) : List Row := List.replicate n (some (sPush, [2])) ++ [r] ++ List.replicate (4 - n) (some (sPop, []))
theorem rows90_len {n : Nat} (r : Row) (h : n ≤ 4) : (rows90 n r).length = 5 := by
  unfold rows90
  simp
  omega
theorem rows90_take {n : Nat} (r : Row) : (rows90 n r).take (n + 1) = List.replicate n (some (sPush, [2])) ++ [r] := by
  unfold rows90
  rw [List.take_append_of_le_length (by simp), List.take_of_length_le (by simp)]
theorem rows90_first {n : Nat} {r : Row} (hr : okRow r = false) : firstNot okRow (List.replicate n (some (sPush, [2])) ++ [r]) = some n := by
  refine firstNot_of (x := r) (by simp) hr fun j hj y hy => ?_
  rw [List.getElem?_append_left (by simpa using hj)] at hy
  rw [(List.mem_replicate.mp (List.mem_of_getElem? hy)).2]
  decide +kernel
theorem bad1 {rss : List (List Row)} {i n : Nat} {r : Row} (h3 : rss.length = 3) (ok : ∀ x ∈ rss, OkRows x) (hi : i < 3) (hn : n ≤ 4) : badProg (rss.set i (rows90 n r)) = some (i, 4) := by
  rw [badProg_set h3 ok hi, rows90_len r hn, if_pos (by decide)]
theorem bad2 {rss : List (List Row)} {i n : Nat} {r : Row} (h3 : rss.length = 3) (ok : ∀ x ∈ rss, OkRows x) (hi : i < 3) (hn : n ≤ 4) (hr : okRow r = false) : badProg (rss.set i ((rows90 n r).take (n + 1))) = some (i, if n < 4 then n else 4) := by
  rw [badProg_set h3 ok hi, rows90_take]
  by_cases q : n < 4
  · rw [if_neg (by simp; omega), rows90_first hr, if_pos q]
  · rw [if_pos (by simp; omega), if_neg q]
theorem tame_set {rss : List (List Row)} {i : Nat} {rs : List Row} (h3 : rss.length = 3) (ok : ∀ x ∈ rss, OkRows x ∧ ∀ r ∈ x, Lay r) (h : rs.length ≤ 1000) (hl : ∀ r ∈ rs, Lay r) : Tame (rss.set i rs) := by
  refine ⟨by rw [List.length_set]; omega, fun x hx => ?_⟩
  rcases List.mem_or_eq_of_mem_set hx with q | q
  · exact ⟨by have := (ok x q).1.1; omega, (ok x q).2⟩
  · rw [q]; exact ⟨h, hl⟩
theorem rows90_lay {n : Nat} {r : Row} (h : Lay r) : ∀ x ∈ rows90 n r, Lay x := by
  intro x hx
  unfold rows90 at hx
  rw [List.mem_append, List.mem_append] at hx
  rcases hx with (q | q) | q
  · rw [(List.mem_replicate.mp q).2]; exact deed_lay (.push 2)
  · rw [List.mem_singleton.mp q]; exact h
  · rw [(List.mem_replicate.mp q).2]; exact deed_lay .pop
theorem ne_stp {K : PySem.W.Frag} {H : Hp} {t u : Addr} {st : Stp} {Q : VK} (ok : st.Ok) (h1 : H t = some (.tup st.row)) (h2 : H u = some (.tup st.row)) (q : Q (.bl false) H) : rNeD K (.ref t) (.ref u) H Q :=
  same_ne (Plain.stp 1 ok) (by decide) (stp_dp ok (SqT.of h1)) (stp_dp ok (SqT.of h2)) q
def endVals : List Stp → List V
  | [] => []
  | .ends a :: l => a :: endVals l
  | _ :: l => endVals l
theorem endVals_snoc (st : Stp) : ∀ l : List Stp, endVals (l ++ [st]) = endVals l ++ st.rest.take (if st.isEnd = true then 1 else 0)
  | [] => by cases st <;> rfl
  | x :: l => by
    have ih := endVals_snoc st l
    cases x <;> (simp only [List.cons_append, endVals]; rw [ih]) <;> rfl
theorem endVals_le : ∀ l : List Stp, (endVals l).length ≤ l.length
  | [] => Nat.le_refl _
  | st :: l => by
    have ih := endVals_le l
    cases st <;> (simp only [endVals, List.length_cons]; omega)
theorem isEnd_ex {st : Stp} (h : st.isEnd = true) : ∃ v, st = .ends v := by
  cases st with
  | ends v => exact ⟨v, rfl⟩
  | _ => cases h
theorem endVals90 {m : Nat} (m0 : 1 ≤ m) (m3 : m ≤ 3) : endVals (told90 m) = (([8, 7, 6] : List Int).take m).map V.int := by
  have : m = 1 ∨ m = 2 ∨ m = 3 := by omega
  obtain rfl | rfl | rfl := this <;> rfl
theorem ints_self {K : PySem.W.Frag} {H : Hp} {t u : Addr} {l : List Int} {Q : VK} (h1 : H t = some (.lst (l.map V.int))) (h2 : H u = some (.lst (l.map V.int))) (q : Q (.bl false) H) : rNeD K (.ref t) (.ref u) H Q := by
  have p : Plain 2 (.list (l.map PyData.int)) := .lst fun d hd => by
    obtain ⟨i, _, e⟩ := List.mem_map.mp hd
    rw [← e]
    exact .int _ _
  exact same_ne p (by decide) (.lst (SqL.of h1) (dpAll_ints l)) (.lst (SqL.of h2) (dpAll_ints l)) q
theorem eq_stp {K : PySem.W.Frag} {H : Hp} {t u : Addr} {st : Stp} {Q : VK} (ok : st.Ok) (h1 : H t = some (.tup st.row)) (h2 : H u = some (.tup st.row)) (q : Q (.bl true) H) : rEqD K (.ref t) (.ref u) H Q := by
  refine ⟨st.dat, st.dat, stp_dp ok (SqT.of h1), stp_dp ok (SqT.of h2), (Plain.stp 1 ok).shaped (by decide), (Plain.stp 1 ok).shaped (by decide), ?_⟩
  rw [(Plain.stp 1 ok).self]
  exact q
theorem ints_eq {K : PySem.W.Frag} {H : Hp} {t u : Addr} {l : List Int} {Q : VK} (h1 : H t = some (.lst (l.map V.int))) (h2 : H u = some (.lst (l.map V.int))) (q : Q (.bl true) H) : rEqD K (.ref t) (.ref u) H Q := by
  refine ⟨intsD l, intsD l, ints_dp (SqL.of h1), ints_dp (SqL.of h2), (Plain.ints 1 l).shaped (by decide), (Plain.ints 1 l).shaped (by decide), ?_⟩
  rw [(Plain.ints 1 l).self]
  exact q
end Sk


namespace Sk
open PySem PySem.Spec PyProof.Rows L2
def spLaw (K : PySem.W.Frag) : Sp := fun vs H Q _ => ∃ (a : Addr) (ns : List Int), vs = [.ref a] ∧ SqL K H a (ns.map V.int) ∧ ∀ H', Q (.bl true) H'
structure TxR90 (mg : Str → Option Value) : Prop where
  len : mg "len" = none
  int : mg "int" = none
  range : mg "range" = none
section
variable {P : Program} {w : World} {K : PySem.W.Frag} {mg : Str → Option Value} {base : Heap} {B CP CD fP fD Cm : Addr} {mc : Value} {f : Addr} {fd : FuncData}
theorem scLaw : FnScope ["_law_script", "_law_d", "_law_hand", "_law_at", "_law_programs", "_law_odd", "_law_many", "_law_holder", "_law_worker", "_law_machine", "_law_rows", "_law_k", "_law_row"] ["_law_script"] (defScope sLaw) := ⟨rfl, rfl, rfl, by decide +kernel, rfl, by decide +kernel, by decide +kernel⟩
theorem ok_law (F : FnP K "law" "law" sLaw f fd) (TM : TxM K mg Cm) (TI : TxEI K mg B CP CD fP fD mc) (TC : TxCaught K mg CD) (D1 : DefAt K mg "_law_dice" sDice) (D2 : DefAt K mg "_law_next" sNext) (D3 : DefAt K mg "_law_bad" s_law_bad) (D4 : DefAt K mg "_law_done" s_law_done)
    (Df : MethAt K Cm "free" "Machine.free" s_Machine_free) (Dm : MethAt K Cm "marked" "Machine.marked" s_Machine_marked) (TR : TxR90 mg) : FnOk P w K mg base CX0 10 f fd ["_law_script"] (spLaw K) := by
  have T := TR
  obtain ⟨f1, d1, F1, g1⟩ := D1.ex
  obtain ⟨f2, d2, F2, g2⟩ := D2.ex
  have c__law_dice : C8.Cal P w K mg base 1 "_law_dice" (spDice K) [] := cal_of F1 g1 (F1.bindsN fun _ _ _ _ _ _ us hl => match us, hl with | [_], _ => rfl) (ok_dice F1 TR.len TR.int)
  have c__law_next : C8.Cal P w K mg base 1 "_law_next" (spNext K) [] := cal_of F2 g2 (F2.bindsN fun _ _ _ _ _ _ us hl => match us, hl with | [_, _], _ => rfl) (ok_next F2 TR.len)
  have c__law_bad : C8.Cal P w K mg base 9 "_law_bad" (spLBad K) [] := cal_lbad TM TI TC D3
  have c__law_done : C8.Cal P w K mg base 7 "_law_done" (spDone90 K Cm) [] := cal_done90 TM D4 TR.int
  have k_Machine : C8.Mak P w K mg base 7 "Machine" Cm (spInitM K Cm) [] := mak_Machine TM
  have m_turn : C8.Met P w K mg base 6 Cm "turn" (spTurnM K Cm) [] := met_turn TM
  have m_marked : C8.Met P w K mg base 2 Cm "marked" (spMarked K Cm) [] := met_marked TM Dm
  have m_free : C8.Met P w K mg base 1 Cm "free" (spFree K Cm) [] := met_free TM Df
  refine fok F scLaw (fun vs H Q E h => ?_) (fun cdv A outer s0 H vs Q E hr h => ?_)
  · obtain ⟨a, ns, rfl, _⟩ := h
    rfl
  · obtain ⟨a, ns, rfl, hS, fin⟩ := h
    refine ⟨_, (pss_cons
    (ps_set (i := 1) scLaw.nd rfl (.inr rfl) (C8.pe_c c__law_dice hr (by decide) (by rfl) (pa_cons (pv 0) pa_nil))) (pss_cons
    (ps_par (i := 2) (j := 3) (by rfl) scLaw.nd rfl rfl (by decide) rfl rfl (pa_cons (C8.pe_c c__law_next hr (by decide) (by rfl) (pa_cons (pv 1) (pa_cons pe_int pa_nil))) (pa_cons (C8.pe_c c__law_next hr (by decide) (by rfl) (pa_cons (pv 1) (pa_cons pe_int pa_nil))) pa_nil)) (by rfl)) (pss_cons
    (ps_setLc (i := 4) (own := [("_law_k", 11)]) (g := gName 11) (tt := tYes) rfl scLaw.nd rfl rfl (sw_true rfl rfl rfl (by decide +kernel)) (pi_range1 (by rfl) T.range (pa_cons pe_int pa_nil)) (blkOk_by (N := (["_law_script", "_law_d", "_law_hand", "_law_at", "_law_programs", "_law_odd", "_law_many", "_law_holder", "_law_worker", "_law_machine", "_law_rows", "_law_k", "_law_row"])) (sc := defScope sLaw) (by decide +kernel)) (fun _ _ _ _ _ => pg_name (i := 11) scLaw.nd rfl (Or.inl rfl)) (fun _ _ _ _ _ => pts_nil) (fun _ _ _ _ _ => (pe_op (r := rRep) op_rep (pe_lst (pa_cons (pe_tup (pa_cons pe_str (pa_cons pe_int pa_nil))) pa_nil)) (C8.pe_c c__law_next hr (by decide) (by rfl) (pa_cons (pv 1) (pa_cons pe_int pa_nil)))))) (pss_cons
    (ps_set (i := 5) scLaw.nd rfl (.inl rfl) (pe_ix ix_list (pe_lst (pa_cons (pe_tup (pa_cons pe_str pa_nil)) (pa_cons (pe_tup pa_nil) (pa_cons (pe_tup (pa_cons pe_str (pa_cons pe_int pa_nil))) (pa_cons (pe_tup (pa_cons pe_str pa_nil)) pa_nil))))) (C8.pe_c c__law_next hr (by decide) (by rfl) (pa_cons (pv 1) (pa_cons pe_int pa_nil))) (fun _ _ => rfl))) (pss_cons
    (ps_asg (pe_op op_cat (pe_op op_cat (pe_op op_rep (pe_lst (pa_cons (pe_tup (pa_cons pe_str (pa_cons pe_int pa_nil))) pa_nil)) (pv 3)) (pe_lst (pa_cons (pv 5) pa_nil))) (pe_op op_rep (pe_lst (pa_cons (pe_tup (pa_cons pe_str pa_nil)) pa_nil)) (pe_op op_sub pe_int (pv 3)))) (pg_sub (pv 4) (pv 2) set_list)) (pss_cons
    (ps_if (pt_cmpR (op_neD hr.units) (C8.pe_c c__law_bad hr (by decide) (by rfl) (pa_cons (pv 4) pa_nil)) (pe_tup (pa_cons (pv 2) (pa_cons pe_int pa_nil))) (nomark _)) (pss_one (ps_ret pe_bl)) pss_nil) (pss_cons
    (ps_asg (pe_slice sl_list (pe_ix ix_list (pv 4) (pv 2) (fun _ _ => rfl)) po_none (po_some (pe_op op_add (pv 3) pe_int))) (pg_sub (pv 4) (pv 2) set_list)) (pss_cons
    (ps_if (pt_cmpR (op_neD hr.units) (C8.pe_c c__law_bad hr (by decide) (by rfl) (pa_cons (pv 4) pa_nil)) (pe_ifExp (pt_cmpR op_lt (pv 3) pe_int (nomark _)) (pe_tup (pa_cons (pv 2) (pa_cons (pv 3) pa_nil))) (pe_tup (pa_cons (pv 2) (pa_cons pe_int pa_nil)))) (nomark _)) (pss_one (ps_ret pe_bl)) pss_nil) (pss_cons
    (ps_par (i := 6) (j := 7) (by rfl) scLaw.nd rfl rfl (by decide) rfl rfl (pa_cons (pe_op op_add pe_int (C8.pe_c c__law_next hr (by decide) (by rfl) (pa_cons (pv 1) (pa_cons pe_int pa_nil)))) (pa_cons (C8.pe_c c__law_next hr (by decide) (by rfl) (pa_cons (pv 1) (pa_cons pe_int pa_nil))) pa_nil)) (by rfl)) (pss_cons
    (ps_set (i := 8) scLaw.nd rfl (.inl rfl) (pe_op op_mod (pe_op op_add (pe_op op_add (pv 7) pe_int) (C8.pe_c c__law_next hr (by decide) (by rfl) (pa_cons (pv 1) (pa_cons pe_int pa_nil)))) pe_int)) (pss_cons
    (ps_set (i := 4) scLaw.nd rfl (.inl rfl) (pe_lst (pa_cons (pe_lst pa_nil) (pa_cons (pe_lst pa_nil) (pa_cons (pe_lst pa_nil) pa_nil))))) (pss_cons
    (ps_asg (pe_tup (pa_cons (pe_lst (pa_cons (pe_tup (pa_cons pe_str pa_nil)) pa_nil)) (pa_cons (pe_op op_cat (pe_op op_rep (pe_lst (pa_cons (pe_tup (pa_cons pe_str pa_nil)) pa_nil)) (pv 6)) (pe_lst (pa_cons (pe_tup (pa_cons pe_str (pa_cons pe_int pa_nil))) pa_nil))) pa_nil))) (pg_tup (by rfl) (pgs_cons (pg_sub (pv 4) (pv 7) set_list) (pgs_cons (pg_sub (pv 4) (pv 8) set_list) pgs_nil)))) (pss_cons
    (ps_set (i := 9) scLaw.nd rfl (.inl rfl) (C8.pe_mk k_Machine hr (by decide) (by rfl) (pa_cons (pe_lst (pa_cons pe_int (pa_cons pe_int (pa_cons pe_int (pa_cons pe_int pa_nil))))) (pa_cons (pv 4) (pa_cons (pe_tup (pa_cons pe_str (pa_cons (pe_tup (pa_cons pe_int (pa_cons pe_int (pa_cons pe_int pa_nil)))) pa_nil))) pa_nil))))) (pss_cons
    (ps_if (PW.pt (pw_or (pt_cmpR (op_neD hr.units) (C8.pe_mt m_turn hr (by decide) (pv 9) (pa_cons (pv 7) pa_nil)) (pe_tup (pa_cons pe_str (pa_cons pe_int pa_nil))) (nomark _)) (pw_or (pt_cmpR (op_neD hr.units) (C8.pe_mt m_turn hr (by decide) (pv 9) (pa_cons (pv 7) pa_nil)) (pe_tup (pa_cons pe_str (pa_cons pe_int pa_nil))) (nomark _)) (pw_or1 (pt_cmpR op_ne (C8.pe_mt m_marked hr (by decide) (pv 9) (pa_cons (pv 7) pa_nil)) pe_int (nomark _)))))) (pss_one (ps_ret pe_bl)) pss_nil) (pss_cons
    (ps_set (i := 10) scLaw.nd rfl (.inl rfl) (C8.pe_c c__law_done hr (by decide) (by rfl) (pa_cons (pv 9) (pa_cons (pv 8) (pa_cons (pv 6) pa_nil))))) (pss_cons
    (ps_if (PW.pt (pw_or (pt_cmpR (op_neD hr.units) (pe_lc (own := [("_law_row", 12)]) (g := gName 12) rfl scLaw.nd (pi_list (pv 10)) (blkOk_by (N := (["_law_script", "_law_d", "_law_hand", "_law_at", "_law_programs", "_law_odd", "_law_many", "_law_holder", "_law_worker", "_law_machine", "_law_rows", "_law_k", "_law_row"])) (sc := defScope sLaw) (by decide +kernel)) (fun _ _ _ _ _ => pg_name (i := 12) scLaw.nd rfl (Or.inl rfl)) (fun _ _ _ _ _ => pts_one (pt_cmpR op_eq (pe_ix (r := rIxT K) ix_tup (pv 12) pe_int (fun _ _ => rfl)) pe_str (nomark _))) (fun _ _ _ _ _ => (pe_ix (r := rIxT K) ix_tup (pv 12) pe_int (fun _ _ => rfl)))) (pe_slice sl_list (pe_lst (pa_cons pe_int (pa_cons pe_int (pa_cons pe_int pa_nil)))) po_none (po_some (pv 6))) (nomark _)) (pw_or1 (pt_cmpR (op_neD hr.units) (C8.pe_mt0 m_free hr (by decide) (pv 9)) (pe_slice sl_list (pe_lst (pa_cons pe_int (pa_cons pe_int (pa_cons pe_int pa_nil)))) po_none (po_some (pv 6))) (nomark _))))) (pss_one (ps_ret pe_bl)) pss_nil) (pss_cons
    (ps_if (pt_cmpR (op_neD hr.units) (C8.pe_mt m_turn hr (by decide) (pv 9) (pa_cons (pv 8) pa_nil)) (pe_tup (pa_cons pe_str (pa_cons (pe_ifExp (pt_cmpR op_gt (pv 6) pe_int (nomark _)) pe_int pe_int) pa_nil))) (nomark _)) (pss_one (ps_ret pe_bl)) pss_nil) (pss_one
    (ps_ret (pe_and (pe_cmpR (op_eqD hr.units) (C8.pe_mt m_turn hr (by decide) (pv 9) (pa_cons (pv 7) pa_nil)) (pe_tup (pa_cons pe_str (pa_cons pe_bl pa_nil))) (nomark _)) (pe_one (pe_cmpR (op_eqD hr.units) (C8.pe_mt0 m_free hr (by decide) (pv 9)) (pe_ifExp (pt_cmpR op_gt (pv 6) pe_int (nomark _)) (pe_slice sl_list (pe_lst (pa_cons pe_int (pa_cons pe_int pa_nil))) po_none (po_some (pe_op op_sub (pv 6) pe_int))) (pe_lst (pa_cons pe_int pa_nil))) (nomark _))))))))))))))))))))))), ?_⟩
    refine ⟨_, rfl, a, ns, rfl, hS, fun p H1 np s1 d1 => ?_⟩
    refine ⟨_, rfl, p, a, ns, 3, rfl, d1, by decide, by decide, fun i H2 i0 i1 w2 => ?_⟩
    refine ⟨_, rfl, p, a, ns, 5, rfl, w2.d, by decide, by decide, fun n H3 n0 n1 w3 => ?_⟩
    refine ⟨_, _, rfl, ?_⟩
    obtain ⟨i, rfl⟩ : ∃ k : Nat, i = (k : Int) := ⟨i.toNat, by omega⟩
    obtain ⟨n, rfl⟩ : ∃ k : Nat, n = (k : Int) := ⟨n.toNat, by omega⟩
    refine ⟨_, rfl, by decide, by decide, fun D nD => ?_⟩
    have nDp : D ≠ p := w3.ne nD
    refine lc_range (lo := 0) (n := 3) (fun k H4 => Drew K p a ns H3 H4 ∧ ∃ rss : List (List Row), PL K H4 p D rss ∧ rss.length = k ∧ ∀ x ∈ rss, OkRows x ∧ ∀ r ∈ x, Lay r) ⟨(Drew.refl w3.d).put w3.d nD nDp, [], ⟨[], upd_same, nDp, fun l hl => (by cases hl), .nil⟩, rfl, fun x hx => by cases hx⟩ ?step ?rest
    case step =>
      rintro k H4 hk ⟨w4, rss, pl, rl, ok⟩
      refine ⟨rfl, tyes ⟨by show 2 ≤ sizeLine; decide, fun t nt => ⟨by show 1 ≤ sizeLine; decide, fun l0 nl0 => ⟨_, rfl, p, a, ns, 5, rfl, (w4.same ((same_upd nt).trans (same_upd nl0))).d, by decide, by decide, fun c H5 c0 c1 w5 => ?_⟩⟩⟩⟩
      obtain ⟨c, rfl⟩ : ∃ k : Nat, c = (k : Int) := ⟨c.toNat, by omega⟩
      have sT := (same_upd (o := .tup [V.str "push", .int 1]) nt).trans (same_upd (o := .lst [V.ref t]) nl0)
      have et := (same_upd (o := .lst [V.ref t]) nl0) _ _ (upd_same (H := H4) (a := t) (o := .tup [V.str "push", .int 1]))
      have w45 := w4.same sT
      have l0p : l0 ≠ p := (w4.same (same_upd (o := .tup [V.str "push", .int 1]) nt)).ne nl0
      have pl4 := pl.same sT
      obtain ⟨lp, elp⟩ := w45.d.some
      have pl5 := pl4.but elp w5.b
      have el0 := w5.b _ _ l0p (upd_same (H := upd H4 t (.tup [V.str "push", .int 1])) (a := l0) (o := .lst [V.ref t]))
      have et5 : SqT K H5 t (rowV (some (sPush, [1]))) := sqt_but w5.b elp (SqT.of et)
      refine ⟨l0, _, _, rfl, rfl, el0, by omega, by omega, ?_, fun l nl => ?_⟩
      · rw [sizeLine_eq]
        show 1 * (c : Int).toNat ≤ _
        omega
      have sl := same_upd (o := .lst (List.replicate (c : Int).toNat [V.ref t]).flatten) nl
      have w6 := (w45.trans w5).same sl
      have pl6 := pl5.same sl
      have nlp : l ≠ p := (w45.trans w5).ne nl
      have nlD : l ≠ D := by
        obtain ⟨ls, e, _⟩ := pl5.len
        exact (ne_of_none e nl).symm
      have el : upd H5 l (.lst (List.replicate (c : Int).toNat [V.ref t]).flatten) l = some (.lst ((List.replicate c t).map V.ref)) := by
        rw [upd_same, rep_flat, List.map_replicate]
        rfl
      obtain ⟨xs, ex, xl, pl7⟩ := pl6.add nlp nlD el (rep_rows (same_tup sl et5) c)
      refine ⟨xs, ex, ?_, w6.put w3.d nD nDp, _, pl7, ?_, fun x hx => ?_⟩
      · rw [xl, rl, sizeLine_eq]
        omega
      · rw [List.length_append, rl]
        rfl
      · rcases List.mem_append.mp hx with q | q
        · exact ok x q
        · rw [List.mem_singleton.mp q]
          exact ⟨okRows_push c 1 (by omega) (by decide), fun r hr => by rw [(List.mem_replicate.mp hr).2]; exact deed_lay (.push 1)⟩
    case rest =>
      rintro H4 ⟨w4, rss, pl, rl, ok⟩
      refine ⟨by show 1 ≤ sizeLine; decide, fun t1 m1 => ⟨Nat.zero_le _, fun t2 m2 => ⟨by show 2 ≤ sizeLine; decide, fun t3 m3 => ⟨by show 1 ≤ sizeLine; decide, fun t4 m4 => ⟨by show 4 ≤ sizeLine; decide, fun O nO => ?_⟩⟩⟩⟩⟩
      have R0 : Rows K H4 [] [] := .nil
      have grow : ∀ {H : Hp} {ts : List Addr} {rs : List Row} {t : Addr} (r : Row), Rows K H ts rs → H t = none → Rows K (upd H t (.tup (rowV r))) (ts ++ [t]) (rs ++ [r]) := fun r h n => (h.mono fun _ _ z => same_tup (same_upd n) z).append (.cons (SqT.of upd_same) .nil)
      have R4 := grow (some (sPush, [])) (grow (some (sPush, [100])) (grow none (grow (some ("pull", [])) R0 m1) m2) m3) m4
      have sO := same_upd (o := .lst ([t1, t2, t3, t4].map V.ref)) nO
      have R5 := R4.mono fun _ _ z => same_tup sO z
      have s5 := (((same_upd (o := .tup (rowV (some ("pull", [])))) m1).trans (same_upd (o := .tup (rowV none)) m2)).trans ((same_upd (o := .tup (rowV (some (sPush, [100])))) m3).trans (same_upd (o := .tup (rowV (some (sPush, [])))) m4)))
      have Op : O ≠ p := (w4.same s5).ne nO
      have s6 : Same H4 (upd (upd (upd (upd (upd H4 t1 (.tup [V.str "pull"])) t2 (.tup [])) t3 (.tup [V.str "push", .int 100])) t4 (.tup [V.str "push"])) O (.lst [V.ref t1, .ref t2, .ref t3, .ref t4])) := s5.trans sO
      have R6 : Rows K (upd (upd (upd (upd (upd H4 t1 (.tup [V.str "pull"])) t2 (.tup [])) t3 (.tup [V.str "push", .int 100])) t4 (.tup [V.str "push"])) O (.lst [V.ref t1, .ref t2, .ref t3, .ref t4])) [t1, t2, t3, t4] odd90 := R5
      have eO : (upd (upd (upd (upd (upd H4 t1 (.tup [V.str "pull"])) t2 (.tup [])) t3 (.tup [V.str "push", .int 100])) t4 (.tup [V.str "push"])) O (.lst [V.ref t1, .ref t2, .ref t3, .ref t4])) O = some (.lst ([t1, t2, t3, t4].map V.ref)) := upd_same
      clear R5 R4 R0 sO s5
      generalize (upd (upd (upd (upd (upd H4 t1 (.tup [V.str "pull"])) t2 (.tup [])) t3 (.tup [V.str "push", .int 100])) t4 (.tup [V.str "push"])) O (.lst [V.ref t1, .ref t2, .ref t3, .ref t4])) = H6 at s6 R6 eO ⊢
      have w6 := w4.same s6
      have pl6 := pl.same s6
      refine ⟨_, rfl, p, a, ns, 4, rfl, w6.d, by decide, by decide, fun j H7 j0 j1 w7 => ?_⟩
      obtain ⟨j, rfl⟩ : ∃ k : Nat, j = (k : Int) := ⟨j.toNat, by omega⟩
      obtain ⟨lp, elp⟩ := w6.d.some
      have pl7 := pl6.but elp w7.b
      have eO7 := w7.b _ _ Op eO
      have hj : j < [t1, t2, t3, t4].length := by show j < 4; omega
      obtain ⟨r, er, hr0⟩ := R6.at_ (List.getElem?_eq_getElem hj)
      have hr7 := sqt_but w7.b elp hr0
      generalize ho : [t1, t2, t3, t4][j] = odd at hr7
      obtain ⟨badr, layr⟩ := odd90_bad r (List.mem_of_getElem? er)
      have eat : atI ([t1, t2, t3, t4].map V.ref) (j : Int) = some (.ref odd) := at_ref (by rw [List.getElem?_eq_getElem hj, ho])
      refine ⟨O, _, _, _, rfl, rfl, SqL.of eO7, eat, ?_⟩
      -- the rows with the odd one
      refine ⟨by show 2 ≤ sizeLine; decide, fun ta na => ⟨by show 1 ≤ sizeLine; decide, fun la nla => ⟨_, rfl, la, _, _, rfl, rfl, upd_same, by omega, by omega, ?_, fun lb nlb => ?_⟩⟩⟩
      · rw [sizeLine_eq]
        show 1 * (n : Int).toNat ≤ _
        omega
      refine ⟨_, rfl, by show 1 ≤ sizeLine; decide, fun lc nlc => ⟨lb, lc, _, _, rfl, rfl, (same_upd nlc) _ _ upd_same, upd_same, ?_, fun ld nld => ⟨by show 1 ≤ sizeLine; decide, fun tb ntb => ⟨by show 1 ≤ sizeLine; decide, fun le nle => ⟨_, rfl, _, _, rfl, rfl, le, _, _, rfl, rfl, upd_same, by omega, by omega, ?_, fun lf nlf => ⟨ld, lf, _, _, rfl, rfl, (same_upd nlf) _ _ ((same_upd nle) _ _ ((same_upd ntb) _ _ upd_same)), upd_same, ?_, fun R nR => ?_⟩⟩⟩⟩⟩⟩
      · rw [rep_flat, List.length_replicate, sizeLine_eq]
        show (n : Int).toNat + 1 ≤ _
        omega
      · rw [sizeLine_eq]
        show 1 * (4 - (n : Int)).toNat ≤ _
        omega
      · rw [rep_flat, rep_flat, List.length_append, List.length_replicate, List.length_replicate, sizeLine_eq]
        show (n : Int).toNat + 1 + (4 - (n : Int)).toNat ≤ _
        omega
      have z1 := same_upd (o := .tup [V.str "push", .int 2]) na
      have z2 := same_upd (o := .lst [V.ref ta]) nla
      have z3 := same_upd (o := .lst (List.replicate (n : Int).toNat [V.ref ta]).flatten) nlb
      have z4 := same_upd (o := .lst [V.ref odd]) nlc
      have z5 := same_upd (o := .lst ((List.replicate (n : Int).toNat [V.ref ta]).flatten ++ [V.ref odd])) nld
      have z6 := same_upd (o := .tup [V.str "pop"]) ntb
      have z7 := same_upd (o := .lst [V.ref tb]) nle
      have z8 := same_upd (o := .lst (List.replicate (4 - (n : Int)).toNat [V.ref tb]).flatten) nlf
      have z9 := same_upd (o := .lst (((List.replicate (n : Int).toNat [V.ref ta]).flatten ++ [V.ref odd]) ++ (List.replicate (4 - (n : Int)).toNat [V.ref tb]).flatten)) nR
      have z69 := z6.trans (z7.trans (z8.trans z9))
      have zz := (z1.trans (z2.trans (z3.trans (z4.trans z5)))).trans z69
      have eta := (z2.trans (z3.trans (z4.trans (z5.trans z69)))) _ _ (upd_same (H := H7) (a := ta) (o := .tup [V.str "push", .int 2]))
      have etb := (z7.trans (z8.trans z9)) _ _ (upd_same (a := tb) (o := .tup [V.str "pop"]))
      have Rp : R ≠ p := (w6.trans w7).same ((z1.trans (z2.trans (z3.trans (z4.trans z5)))).trans (z6.trans (z7.trans z8))) |>.ne nR
      have nR7 : H7 R = none := none_back ((z1.trans (z2.trans (z3.trans (z4.trans z5)))).trans (z6.trans (z7.trans z8))) nR
      generalize hH8 : upd _ R _ = H8 at zz eta etb ⊢
      have eR : H8 R = some (.lst (((List.replicate (n : Int).toNat [V.ref ta]).flatten ++ [V.ref odd]) ++ (List.replicate (4 - (n : Int)).toNat [V.ref tb]).flatten)) := by rw [← hH8]; exact upd_same
      clear hH8 z1 z2 z3 z4 z5 z6 z7 z8 z9 z69
      have w8 := (w6.trans w7).same zz
      have pl8 := pl7.same zz
      have eRr : H8 R = some (.lst ((List.replicate n ta ++ [odd] ++ List.replicate (4 - n) tb).map V.ref)) := by
        rw [eR, rep_flat, rep_flat, show (n : Int).toNat = n by omega, show (4 - (n : Int)).toNat = 4 - n by omega]
        simp
      have rR : Rows K H8 (List.replicate n ta ++ [odd] ++ List.replicate (4 - n) tb) (rows90 n r) := ((rep_rows (SqT.of eta) n).append (.cons (same_tup zz hr7) .nil)).append (rep_rows (SqT.of etb) (4 - n))
      have nRD : R ≠ D := by
        obtain ⟨ls, e, _⟩ := pl7.len
        exact (ne_of_none e nR7).symm
      obtain ⟨xs, eD8, xl, pl9⟩ := pl8.put (i := i) Rp nRD eRr rR
      refine ⟨_, rfl, _, rfl, D, xs, _, i, rfl, rfl, eD8, Evl.ixN_nat (by rw [xl, rl]; omega), ?_⟩
      have w9 := w8.put (o := .lst (xs.set i (V.ref R))) w3.d nD nDp
      have okE : ∀ x ∈ rss, OkRows x := fun x hx => (ok x hx).1
      generalize upd H8 D (.lst (xs.set i (V.ref R))) = H9 at pl9 w9 ⊢
      refine ⟨_, rfl, D, _, i, 4, rfl, pl9.rows, tame_set rl ok (by rw [rows90_len r (by omega)]; decide) (rows90_lay layr), bad1 rl okE (by omega) (by omega), by omega, fun tq H10 s10 ntq etq => ?_⟩
      have w10 := w9.same s10
      have pl10 := pl9.same s10
      refine ⟨_, rfl, by show 2 ≤ sizeLine; decide, fun tr ntr => ?_⟩
      have s11 := same_upd (o := .tup [V.int (i : Int), .int 4]) ntr
      have w11 := w10.same s11
      have pl11 := pl10.same s11
      have pair : ∀ x y : Int, Plain 2 (.tuple [.int x, .int y]) := fun x y => .tup fun d hd => by
        rcases List.mem_cons.mp hd with q | q
        · rw [q]; exact .int _ _
        · rw [List.mem_singleton.mp q]; exact .int _ _
      refine same_ne (pair (i : Int) 4) (by decide) (.tup (SqT.of (s11 _ _ etq)) (.cons (.int _) (.cons (.int _) .nil))) (.tup (SqT.of upd_same) (.cons (.int _) (.cons (.int _) .nil))) ?_
      refine ⟨_, rfl, iteF ?_⟩
      have rl9 : (rss.set i (rows90 n r)).length = 3 := by rw [List.length_set, rl]
      obtain ⟨ys, l9, ts9, eD11, at11, l9p, el9, rR9⟩ := pl11.get (i := i) (rs := rows90 n r) (by rw [List.getElem?_set_self (by omega)])
      generalize upd H10 tr (.tup [V.int (i : Int), .int 4]) = H11 at s11 w11 pl11 eD11 el9 rR9 ⊢
      refine ⟨_, rfl, _, rfl, D, ys, _, _, rfl, rfl, SqL.of eD11, at11, ?_⟩
      refine ⟨_, rfl, _, _, rfl, rfl, _, rfl, l9, _, rfl, SqL.of el9, fun S nS => ?_⟩
      have s12 := same_upd (o := .lst (cutV (ts9.map V.ref) none (some ((n : Int) + 1)))) nS
      have w12 := w11.same s12
      have pl12 := pl11.same s12
      have Sp : S ≠ p := w11.ne nS
      have SD : S ≠ D := (ne_of_none eD11 nS).symm
      have eS : upd H11 S (.lst (cutV (ts9.map V.ref) none (some ((n : Int) + 1)))) S = some (.lst ((ts9.take (n + 1)).map V.ref)) := by
        rw [upd_same, show ((n : Int) + 1) = ((n + 1 : Nat) : Int) by omega]
        unfold cutV
        rw [HT.sIx_none, HT.sIx_nat]
        simp [List.take_eq_take_iff]
      have rS : Rows K (upd H11 S (.lst (cutV (ts9.map V.ref) none (some ((n : Int) + 1))))) (ts9.take (n + 1)) ((rows90 n r).take (n + 1)) := (rR9.mono fun _ _ z => same_tup s12 z).take (n + 1)
      generalize upd H11 S (.lst (cutV (ts9.map V.ref) none (some ((n : Int) + 1)))) = H12 at s12 w12 pl12 eS rS ⊢
      obtain ⟨xs2, eD12, xl2, pl13⟩ := pl12.put (i := i) Sp SD eS rS
      refine ⟨_, rfl, _, rfl, D, xs2, _, i, rfl, rfl, eD12, Evl.ixN_nat (by rw [xl2, rl9]; omega), ?_⟩
      have w13 := w12.put (o := .lst (xs2.set i (V.ref S))) w3.d nD nDp
      rw [List.set_set] at pl13
      generalize upd H12 D (.lst (xs2.set i (V.ref S))) = H13 at pl13 w13 ⊢
      refine ⟨_, rfl, D, _, i, (if n < 4 then n else 4), rfl, pl13.rows, tame_set rl ok (by rw [rows90_take]; simp; omega) (fun x hx => rows90_lay layr x (List.mem_of_mem_take hx)), bad2 rl okE (by omega) (by omega) badr, ⟨by omega, by split <;> omega⟩, fun tq2 H14 s14 ntq2 etq2 => ?_⟩
      have w14 := w13.same s14
      by_cases q : n < 4
      all_goals refine ⟨_, rfl, _, _, rfl, rfl, _, rfl, ?_⟩
      all_goals first
        | (rw [if_pos q] at etq2; refine ite2 (fun _ => ⟨_, rfl, _, rfl, by show 2 ≤ sizeLine; decide, fun tr2 ntr2 => ?_⟩) (fun z => absurd (decide_eq_true (show (n : Int) < 4 by omega)) z)
           have s16 := same_upd (o := .tup [V.int (i : Int), .int (n : Int)]) ntr2)
        | (rw [if_neg q] at etq2; refine ite2 (fun z => absurd (of_decide_eq_true z) (show ¬ ((n : Int) < 4) by omega)) (fun _ => ⟨_, rfl, by show 2 ≤ sizeLine; decide, fun tr2 ntr2 => ?_⟩)
           have s16 := same_upd (o := .tup [V.int (i : Int), .int 4]) ntr2)
      all_goals refine same_ne (pair (i : Int) _) (by decide) (.tup (SqT.of ((same_upd ntr2) _ _ etq2)) (.cons (.int _) (.cons (.int _) .nil))) (.tup (SqT.of upd_same) (.cons (.int _) (.cons (.int _) .nil))) ?_
      all_goals refine ⟨_, rfl, iteF ?_⟩
      all_goals have w16 := w14.same s16
      all_goals generalize upd H14 tr2 _ = H16 at w16 ⊢
      all_goals refine ⟨_, rfl, p, a, ns, 3, rfl, w16.d, by decide, by decide, fun m H17 m0 m1 w17 => ⟨_, _, rfl, rfl, _, rfl, p, a, ns, 3, rfl, w17.d, by decide, by decide, fun h H18 h0 h1 w18 => ⟨_, _, rfl, ?_⟩⟩⟩
      all_goals refine ⟨_, rfl, _, _, rfl, rfl, _, rfl, p, a, ns, 2, rfl, w18.d, by decide, by decide, fun x H19 x0 x1 w19 => ⟨_, _, rfl, rfl, _, _, rfl, rfl, by show (0 : Int) < 3; decide, ?_⟩⟩
      all_goals clear s16 etq2 s14 w14 pl13 rS eS pl12 eD12 s12 w12 pl11 eD11 el9 rR9 s11 w11 pl10 s10 w10 etq at11 w9 pl9 pl8 eD8 eR eRr rR w13 eO7 hr7 R6 eO s6 pl6 w6 pl7 elp
      all_goals obtain ⟨m, rfl⟩ : ∃ k : Nat, m = (k : Int) := ⟨m.toNat, by omega⟩
      all_goals obtain ⟨h, rfl⟩ : ∃ k : Nat, h = (k : Int) := ⟨h.toNat, by omega⟩
      all_goals obtain ⟨x, rfl⟩ : ∃ k : Nat, x = (k : Int) := ⟨x.toNat, by omega⟩
      all_goals obtain ⟨wk, ewk⟩ : ∃ wk : Nat, wk = (h + 1 + x) % 3 := ⟨_, rfl⟩
      all_goals have ew : ((h : Int) + 1 + (x : Int)) % 3 = (wk : Int) := by omega
      all_goals have em : (1 : Int) + (m : Int) = ((m + 1 : Nat) : Int) := by omega
      all_goals have F90 := facts90 (h := h) (w := wk) (m := m + 1) (by omega) (by omega) (by omega) (by omega) (by omega)
      all_goals have hn : wk ≠ h := by omega
      all_goals have hw3 : wk < 3 := by omega
      all_goals have m3 : m + 1 ≤ 3 := by omega
      all_goals have m0 : 1 ≤ m + 1 := by omega
      all_goals generalize m + 1 = M at em F90 m3 m0
      all_goals simp only [em, ew]
      all_goals refine ⟨Nat.zero_le _, fun a1 na1 => ⟨Nat.zero_le _, fun a2 na2 => ⟨Nat.zero_le _, fun a3 na3 => ⟨by show 3 ≤ sizeLine; decide, fun D2 nD2 => ?_⟩⟩⟩⟩
      all_goals clear w16 w17 w18 ew em
      all_goals
        have pl0 : PL K (upd (upd (upd (upd H19 a1 (.lst [])) a2 (.lst [])) a3 (.lst [])) D2 (.lst [V.ref a1, .ref a2, .ref a3])) p D2 [[], [], []] := by
          have q1 := same_upd (o := .lst ([] : List V)) na1
          have q2 := same_upd (o := .lst ([] : List V)) na2
          have q3 := same_upd (o := .lst ([] : List V)) na3
          have q4 := same_upd (o := .lst [V.ref a1, .ref a2, .ref a3]) nD2
          have e1 := (q2.trans q3) _ _ (upd_same (H := H19) (a := a1) (o := .lst ([] : List V)))
          have e2 := q3 _ _ (upd_same (H := upd H19 a1 (.lst [])) (a := a2) (o := .lst ([] : List V)))
          have e3 := upd_same (H := upd (upd H19 a1 (.lst [])) a2 (.lst [])) (a := a3) (o := .lst ([] : List V))
          refine ⟨[a1, a2, a3], upd_same, ((w19.same (q1.trans (q2.trans q3))).ne nD2), fun l hl => ?_, .cons ⟨[], q4 _ _ e1, .nil⟩ (.cons ⟨[], q4 _ _ e2, .nil⟩ (.cons ⟨[], q4 _ _ e3, .nil⟩ .nil))⟩
          simp only [List.mem_cons, List.not_mem_nil, or_false] at hl
          rcases hl with z | z | z
          · rw [z]; exact ⟨w19.ne na1, ne_of_none e1 nD2⟩
          · rw [z]; exact ⟨(w19.same q1).ne na2, ne_of_none e2 nD2⟩
          · rw [z]; exact ⟨(w19.same (q1.trans q2)).ne na3, ne_of_none e3 nD2⟩
      all_goals have w20 := w19.same ((same_upd (o := .lst ([] : List V)) na1).trans ((same_upd (o := .lst ([] : List V)) na2).trans ((same_upd (o := .lst ([] : List V)) na3).trans (same_upd (o := .lst [V.ref a1, .ref a2, .ref a3]) nD2))))
      all_goals generalize upd (upd (upd (upd H19 a1 (.lst [])) a2 (.lst [])) a3 (.lst [])) D2 (.lst [V.ref a1, .ref a2, .ref a3]) = H20 at pl0 w20 ⊢
      all_goals refine ⟨by show 1 ≤ sizeLine; decide, fun tp1 np1 => ⟨by show 1 ≤ sizeLine; decide, fun la1 nla1 => ⟨by show 1 ≤ sizeLine; decide, fun tp2 np2 => ⟨by show 1 ≤ sizeLine; decide, fun lb1 nlb1 => ⟨_, rfl, lb1, _, _, rfl, rfl, upd_same, by omega, by omega, (by rw [sizeLine_eq]; show 1 * (M : Int).toNat ≤ _; omega), fun lb2 nlb2 => ⟨by show 2 ≤ sizeLine; decide, fun tp3 np3 => ⟨by show 1 ≤ sizeLine; decide, fun lc1 nlc1 => ⟨lb2, lc1, _, _, rfl, rfl, (same_upd nlc1) _ _ ((same_upd np3) _ _ upd_same), upd_same, (by rw [rep_flat, List.length_replicate, sizeLine_eq]; show (M : Int).toNat + 1 ≤ _; omega), fun Rw nRw => ⟨by show 2 ≤ sizeLine; decide, fun tt ntt => ?_⟩⟩⟩⟩⟩⟩⟩⟩⟩
      all_goals
        have z1 := same_upd (o := .tup [V.str "pop"]) np1
        have z2 := same_upd (o := .lst [V.ref tp1]) nla1
        have z3 := same_upd (o := .tup [V.str "pop"]) np2
        have z4 := same_upd (o := .lst [V.ref tp2]) nlb1
        have z5 := same_upd (o := .lst (List.replicate (M : Int).toNat [V.ref tp2]).flatten) nlb2
        have z6 := same_upd (o := .tup [V.str "push", .int 9]) np3
        have z7 := same_upd (o := .lst [V.ref tp3]) nlc1
        have z8 := same_upd (o := .lst ((List.replicate (M : Int).toNat [V.ref tp2]).flatten ++ [V.ref tp3])) nRw
        have z9 := same_upd (o := .tup [V.ref la1, .ref Rw]) ntt
        have z79 := z7.trans (z8.trans z9)
        have z39 := z3.trans (z4.trans (z5.trans (z6.trans z79)))
        have zz := z1.trans (z2.trans z39)
        have ep1 := (z2.trans z39) _ _ (upd_same (H := H20) (a := tp1) (o := .tup [V.str "pop"]))
        have ela := z39 _ _ (upd_same (a := la1) (o := .lst [V.ref tp1]))
        have ep2 := (z4.trans (z5.trans (z6.trans z79))) _ _ (upd_same (a := tp2) (o := .tup [V.str "pop"]))
        have ep3 := z79 _ _ (upd_same (a := tp3) (o := .tup [V.str "push", .int 9]))
        have eRw := z9 _ _ (upd_same (a := Rw) (o := .lst ((List.replicate (M : Int).toNat [V.ref tp2]).flatten ++ [V.ref tp3])))
        have lap : la1 ≠ p := (w20.same z1).ne nla1
        have Rwp : Rw ≠ p := (w20.same (z1.trans (z2.trans (z3.trans (z4.trans (z5.trans (z6.trans z7))))))).ne nRw
        obtain ⟨ls0, eD0, _⟩ := pl0.len
        have laD : la1 ≠ D2 := (ne_of_none (z1 _ _ eD0) nla1).symm
        have RwD : Rw ≠ D2 := (ne_of_none ((z1.trans (z2.trans (z3.trans (z4.trans (z5.trans (z6.trans z7)))))) _ _ eD0) nRw).symm
      all_goals generalize hH21 : upd _ tt _ = H21 at zz ep1 ela ep2 ep3 eRw ⊢
      all_goals have ett : H21 tt = some (.tup [V.ref la1, .ref Rw]) := by rw [← hH21]; exact upd_same
      all_goals clear hH21 z1 z2 z3 z4 z5 z6 z7 z8 z9 z79 z39
      all_goals
        have pl21 := pl0.same zz
        have w21 := w20.same zz
        obtain ⟨xs3, eD3, xl3, pl22⟩ := pl21.put (i := h) (ts := [tp1]) (rs := [some (sPop, [])]) lap laD ela (.cons (SqT.of ep1) .nil)
        have k22 : ∀ o, Kp H21 (upd H21 D2 (.lst o)) := fun o => .upd eD3 rfl
      all_goals refine ⟨tt, _, rfl, SqT.of ett, rfl, _, _, rfl, _, rfl, _, rfl, D2, xs3, _, h, rfl, rfl, eD3, Evl.ixN_nat (by rw [xl3]; show h < 3; omega), ?_⟩
      all_goals
        obtain ⟨xs4, eD4, xl4, pl23⟩ := pl22.put (i := wk) (l := Rw) (ts := List.replicate M tp2 ++ [tp3]) (rs := List.replicate M (some (sPop, [])) ++ [some (sPush, [9])]) Rwp RwD (by rw [upd_ne RwD, eRw, rep_flat, show (M : Int).toNat = M by omega]; simp) (Rows.kp (k22 _) ((rep_rows (SqT.of ep2) M).append (.cons (SqT.of ep3) .nil)))
      all_goals refine ⟨_, _, rfl, _, rfl, _, rfl, D2, xs4, _, wk, rfl, rfl, eD4, Evl.ixN_nat (by rw [xl4, List.length_set]; exact hw3), rfl, ?_⟩
      all_goals have pg : Progs K _ D2 (progs90 h wk M) := PL.progs (p := p) (ps := progs90 h wk M) (by
        have e : (progs90 h wk M).map (fun ds => ds.map Deed.row) = (([[], [], []] : List (List Row)).set h [some (sPop, [])]).set wk (List.replicate M (some (sPop, [])) ++ [some (sPush, [9])]) := by
          unfold progs90
          rw [List.map_set, List.map_set, List.map_append, show List.map Deed.row (List.replicate M Deed.pop) = List.replicate M (some (sPop, [])) from List.map_replicate]
          rfl
        rw [e]
        exact pl23)
      all_goals clear pl23 pl22 eD3 eD4 pl21 pl0
      all_goals generalize upd (upd H21 D2 _) D2 _ = H22 at pg ⊢
      all_goals
        have ft : Fit (progs90 h wk M) := by
          have l3 : (progs90 h wk M).length = 3 := by unfold progs90; rw [List.length_set, List.length_set, List.length_replicate]
          refine ⟨by rw [l3]; decide, by rw [l3]; decide, fun ds hd => ?_⟩
          unfold progs90 at hd
          rcases List.mem_or_eq_of_mem_set hd with z | z
          · rcases List.mem_or_eq_of_mem_set z with z | z
            · rw [(List.mem_replicate.mp z).2]
              exact ⟨by decide, fun d hd => by cases hd⟩
            · rw [z]
              exact ⟨by decide, fun d hd => by rw [List.mem_singleton.mp hd]; trivial⟩
          · rw [z]
            refine ⟨by rw [List.length_append, List.length_replicate]; show M + 1 ≤ 4; omega, fun d hd => ?_⟩
            rcases List.mem_append.mp hd with y | y
            · rw [(List.mem_replicate.mp y).2]; trivial
            · rw [List.mem_singleton.mp y]; exact ⟨by decide, by decide⟩
        have l3 : (progs90 h wk M).length = 3 := by unfold progs90; rw [List.length_set, List.length_set, List.length_replicate]
        have O0 : Okm r90 4 (s90 h wk M) := Okm.begun [5, 6, 7, 8] (progs90 h wk M) (by omega)
        have rp : r90.pos := fun m e => by cases e
        have l30 : (s90 h wk M).hands.length = 3 := by show ((progs90 h wk M).map Hand.new).length = 3; rw [List.length_map, l3]
      all_goals refine ⟨by show 4 ≤ sizeLine; decide, fun av nav => ⟨_, rfl, by show 3 ≤ sizeLine; decide, fun tm ntm => ⟨by show 2 ≤ sizeLine; decide, fun rl nrl x dx nx nd ne => ⟨x, dx, av, D2, rl, _, [5, 6, 7, 8], progs90 h wk M, r90, rfl, rfl, nx, nd, ne, SqL.of ((same_upd nrl) _ _ ((same_upd ntm) _ _ upd_same)), ⟨by decide, by decide⟩, pg.same ((same_upd nav).trans ((same_upd ntm).trans (same_upd nrl))), ft, ⟨tm, upd_same, (same_upd nrl) _ _ upd_same⟩, ⟨by decide, by rw [l3]; decide⟩, fun L H23 em M0 s23 bo => ⟨rfl, ?_⟩⟩⟩⟩⟩
      all_goals subst em
      all_goals have M0 : MacAt K H23 Cm r90 L (s90 h wk M) := M0
      all_goals obtain ⟨g0, eg0⟩ : ∃ g, (s90 h wk M).hands[h]? = some g := ⟨_, List.getElem?_eq_getElem (by omega)⟩
      all_goals obtain ⟨a0, e0, _⟩ := M0.ins
      all_goals refine ⟨_, rfl, L.m, L.dx, _, rfl, e0, f_none (by decide +kernel), _, rfl, L, r90, _, s90 h wk M, h, g0, rfl, M0, eg0, O0, by decide, rp, fun t1 H24 M1 k24 et1 => ?_⟩
      all_goals
        have fa := F90.a
        rw [fa] at et1
        have O1 : Okm r90 5 (t90a h wk M) := O0.turn
        have M1 : MacAt K H24 Cm r90 L (t90a h wk M) := M1
        have l31 : (t90a h wk M).hands.length = 3 := by show (turn r90 (s90 h wk M) h).2.hands.length = 3; rw [turn_many]; exact l30
        obtain ⟨g1, eg1⟩ : ∃ g, (t90a h wk M).hands[h]? = some g := ⟨_, List.getElem?_eq_getElem (by omega)⟩
      all_goals refine ⟨by show 2 ≤ sizeLine; decide, fun u1 nu1 => ?_⟩
      all_goals have s24 := same_upd (o := .tup [V.str "reads", .int 4]) nu1
      all_goals refine ne_stp (st := .reads 4) trivial (s24 _ _ et1) upd_same ?_
      all_goals have M1 := M1.same s24
      all_goals obtain ⟨a1', e1, _⟩ := M1.ins
      all_goals refine ⟨_, rfl, iteF ⟨_, rfl, L.m, L.dx, _, rfl, e1, f_none (by decide +kernel), _, rfl, L, r90, _, t90a h wk M, h, g1, rfl, M1, eg1, O1, by decide, rp, fun t2 H25 M2 k25 et2 => ⟨by show 2 ≤ sizeLine; decide, fun u2 nu2 => ?_⟩⟩⟩
      all_goals
        have fb := F90.b
        rw [fb] at et2
        have O2 : Okm r90 6 (t90b h wk M) := O1.turn
        have M2 : MacAt K H25 Cm r90 L (t90b h wk M) := M2
        have l32 : (t90b h wk M).hands.length = 3 := by show (turn r90 (t90a h wk M) h).2.hands.length = 3; rw [turn_many]; exact l31
        have s25 := same_upd (o := .tup [V.str "marks", .int 4]) nu2
      all_goals refine ne_stp (st := .marks 4) trivial (s25 _ _ et2) upd_same ?_
      all_goals have M2 := M2.same s25
      all_goals obtain ⟨a2', e2, _⟩ := M2.ins
      all_goals obtain ⟨g2', eg2, egm⟩ := F90.bm
      all_goals refine ⟨_, rfl, iteF ⟨_, rfl, L.m, L.dx, _, rfl, e2, f_none (by decide +kernel), _, rfl, L, r90, t90b h wk M, h, g2', rfl, M2, eg2, ?_⟩⟩
      all_goals rw [egm]
      all_goals obtain ⟨en1, en2, en3⟩ := ends90 m0 m3
      all_goals have fc := F90.c
      all_goals refine ⟨rfl, _, rfl, iteF ⟨_, rfl, _, rfl, _, rfl, L, r90, 6, M, 6 * M, wk, t90b h wk M, rfl, M2, O2, by decide, rp, by omega, by omega, by rw [fc]; exact en1, by rw [fc]; exact en3, fun Dr H26 k26 M3 nDr td => ?_⟩⟩
      all_goals rw [fc] at td
      all_goals have M3 : MacAt K H26 Cm r90 L (t90c h wk M) := M3
      all_goals have O3 : Okm r90 (6 + (List.replicate (6 * M) wk).length) (t90c h wk M) := O2.play
      all_goals rw [List.length_replicate] at O3
      all_goals have l33 : (t90c h wk M).hands.length = 3 := by show (play r90 (t90b h wk M) (List.replicate (6 * M) wk)).2.hands.length = 3; rw [play_many]; exact l32
      all_goals obtain ⟨ts, eDr, pts⟩ := td
      all_goals refine ⟨_, rfl, Dr, rfl, ⟨_, SqL.of eDr⟩, fun Dl nDl => ?_⟩
      all_goals refine lc_list (K := K) (a := Dr) (xs := ts.map V.ref) (fun k H' => Same H26 H' ∧ H' Dl = some (.lst (endVals ((told90 M).take k)))) ⟨same_upd nDl, upd_same⟩ (fun k H' _ z => SqL.of (z.1 _ _ eDr)) (by
        rintro k y H' hy ⟨s', eD'⟩
        have hk := (List.getElem?_eq_some_iff.mp hy).1
        rw [List.length_map] at hk
        have tl := paired_len pts
        obtain ⟨t, et, ht⟩ := paired_get pts (List.getElem?_eq_getElem (show k < (told90 M).length by omega))
        have ey : y = V.ref t := by
          rw [List.getElem?_map, et] at hy
          exact (Option.some.inj hy).symm
        subst ey
        have et' := s' _ _ ht
        rw [row_cons] at et'
        refine ⟨rfl, _, rfl, t, _, _, _, rfl, rfl, SqT.of et', at_zero, rfl, _, rfl, ?_⟩
        rw [word_end]
        have sn : endVals ((told90 M).take (k + 1)) = endVals ((told90 M).take k) ++ ((told90 M)[k]).rest.take (if ((told90 M)[k]).isEnd = true then 1 else 0) := by
          rw [List.take_add_one, List.getElem?_eq_getElem (show k < (told90 M).length by omega)]
          exact endVals_snoc _ _
        rw [sn]
        refine ite2 (fun q => ?_) (fun q => (?_ : _ ∧ _))
        · obtain ⟨v, hv⟩ := isEnd_ex q
          rw [hv] at et'
          refine ⟨_, rfl, t, _, _, v, rfl, rfl, SqT.of et', at_one, _, eD', ?_, sameN s' nDl, ?_⟩
          · have : (endVals ((told90 M).take k)).length ≤ ((told90 M).take k).length := endVals_le _
            rw [List.length_take] at this
            rw [sizeLine_eq]
            omega
          · rw [upd_same, hv]
            rfl
        · refine ⟨s', ?_⟩
          rw [eD', if_neg q]
          exact congrArg (fun l => some (HO.lst l)) (List.append_nil _).symm) ?_
      all_goals rintro H27 ⟨s27, eDl⟩
      all_goals
        have tl := paired_len pts
        rw [List.take_of_length_le (by rw [List.length_map]; omega), endVals90 m0 m3] at eDl
        have M4 := M3.same s27
        have cut : ∀ x y z : Int, cutV [V.int x, .int y, .int z] none (some (M : Int)) = (([x, y, z] : List Int).take M).map V.int := fun x y z => by
          unfold cutV
          rw [HT.sIx_none, HT.sIx_nat]
          simp [List.take_eq_take_iff]
      all_goals refine ⟨by show 3 ≤ sizeLine; decide, fun l3a n3a => ⟨_, rfl, _, rfl, l3a, _, rfl, SqL.of upd_same, fun l3b n3b => ?_⟩⟩
      all_goals rw [cut]
      all_goals have s28 := (same_upd (o := .lst [V.int 8, .int 7, .int 6]) n3a).trans (same_upd (o := .lst ((([8, 7, 6] : List Int).take M).map V.int)) n3b)
      all_goals refine ints_self (s28 _ _ eDl) upd_same ?_
      all_goals have M5 := M4.same s28
      all_goals obtain ⟨a5, e5, _⟩ := M5.ins
      all_goals refine ⟨_, rfl, iteF ⟨_, rfl, L.m, L.dx, _, rfl, e5, f_none (by decide +kernel), L, r90, t90c h wk M, rfl, M5, fun Fd H29 s29 nF eF => ⟨by show 3 ≤ sizeLine; decide, fun l4a n4a => ⟨_, rfl, _, rfl, l4a, _, rfl, SqL.of upd_same, fun l4b n4b => ?_⟩⟩⟩⟩
      all_goals rw [cut]
      all_goals
        have s30 := (same_upd (o := .lst [V.int 4, .int 3, .int 2]) n4a).trans (same_upd (o := .lst ((([4, 3, 2] : List Int).take M).map V.int)) n4b)
        have eF' : H29 Fd = some (.lst ((([4, 3, 2] : List Int).take M).map V.int)) := by
          rw [eF, F90.cf, vN_int, List.map_take]
          rfl
      all_goals refine ints_self (s30 _ _ eF') upd_same ?_
      all_goals have M6 := (M5.same s29).same s30
      all_goals clear M0 M1 M2 M3 M4 M5
      all_goals obtain ⟨a6, e6, _⟩ := M6.ins
      all_goals obtain ⟨g3, eg3⟩ : ∃ g, (t90c h wk M).hands[wk]? = some g := ⟨_, List.getElem?_eq_getElem (by omega)⟩
      all_goals refine ⟨_, rfl, iteF ⟨_, rfl, L.m, L.dx, _, rfl, e6, f_none (by decide +kernel), _, rfl, L, r90, _, t90c h wk M, wk, g3, rfl, M6, eg3, O3, by omega, rp, fun t3 H31 M7 k31 et3 => ⟨_, rfl, _, _, rfl, rfl, _, rfl, ?_⟩⟩⟩
      all_goals have fd90 := F90.d
      all_goals have M8 : MacAt K H31 Cm r90 L (t90d h wk M) := M7
      all_goals have O4 : Okm r90 (6 + 6 * M + 1) (t90d h wk M) := O3.turn
      all_goals have l34 : (t90d h wk M).hands.length = 3 := by show (turn r90 (t90c h wk M) wk).2.hands.length = 3; rw [turn_many]; exact l33
      all_goals obtain ⟨g4, eg4⟩ : ∃ g, (t90d h wk M).hands[h]? = some g := ⟨_, List.getElem?_eq_getElem (by omega)⟩
      all_goals by_cases q1 : 1 < M
      all_goals first
        | (rw [if_pos q1] at fd90
           rw [fd90] at et3
           refine ite2 (fun _ => ⟨by show 2 ≤ sizeLine; decide, fun u3 nu3 => ?_⟩) (fun z => absurd (decide_eq_true (show (1 : Int) < (M : Int) by omega)) z)
           have s32 := same_upd (o := .tup [V.str "takes", .int 3]) nu3
           refine ne_stp (st := .takes 3) trivial (s32 _ _ et3) upd_same ?_
           have M9 := M8.same s32)
        | (rw [if_neg q1] at fd90
           rw [fd90] at et3
           refine ite2 (fun z => absurd (of_decide_eq_true z) (show ¬ ((1 : Int) < (M : Int)) by omega)) (fun _ => ⟨by show 2 ≤ sizeLine; decide, fun u3 nu3 => ?_⟩)
           have s32 := same_upd (o := .tup [V.str "takes", .int 5]) nu3
           refine ne_stp (st := .takes 5) trivial (s32 _ _ et3) upd_same ?_
           have M9 := M8.same s32)
      all_goals obtain ⟨a9, e9, _⟩ := M9.ins
      all_goals refine ⟨_, rfl, iteF ⟨_, rfl, L.m, L.dx, _, rfl, e9, f_none (by decide +kernel), _, rfl, L, r90, _, t90d h wk M, h, g4, rfl, M9, eg4, O4, by omega, rp, fun t4 H33 M10 k33 et4 => ⟨by show 2 ≤ sizeLine; decide, fun u4 nu4 => ?_⟩⟩⟩
      all_goals have s34 := same_upd (o := .tup [V.str "looks", .bl false]) nu4
      all_goals rw [F90.e] at et4
      all_goals refine eq_stp (st := .looks false) trivial (s34 _ _ et4) upd_same ?_
      all_goals have M10 : MacAt K H33 Cm r90 L (t90e h wk M) := M10
      all_goals have M11 := M10.same s34
      all_goals obtain ⟨a11, e11, _⟩ := M11.ins
      all_goals have fef := F90.ef
      all_goals refine ⟨_, rfl, iteT ⟨_, rfl, L.m, L.dx, _, rfl, e11, f_none (by decide +kernel), L, r90, t90e h wk M, rfl, M11, fun Fe H35 s35 nFe eFe => ⟨_, rfl, _, _, rfl, rfl, _, rfl, ?_⟩⟩⟩
      all_goals first
        | (rw [if_pos q1] at fef
           refine ite2 (fun _ => ⟨by show 2 ≤ sizeLine; decide, fun l5a n5a => ⟨_, rfl, _, _, rfl, rfl, _, rfl, l5a, _, rfl, SqL.of upd_same, fun l5b n5b => ?_⟩⟩) (fun z => absurd (decide_eq_true (show (1 : Int) < (M : Int) by omega)) z)
           have ec : cutV [V.int 4, .int 2] none (some ((M : Int) - 1)) = (([4, 2] : List Int).take (M - 1)).map V.int := by
             rw [show (M : Int) - 1 = ((M - 1 : Nat) : Int) by omega]
             unfold cutV
             rw [HT.sIx_none, HT.sIx_nat]
             simp [List.take_eq_take_iff]
           rw [ec]
           have s36 := (same_upd (o := .lst [V.int 4, .int 2]) n5a).trans (same_upd (o := .lst ((([4, 2] : List Int).take (M - 1)).map V.int)) n5b)
           have eF2 : H35 Fe = some (.lst ((([4, 2] : List Int).take (M - 1)).map V.int)) := by
             rw [eFe, fef, vN_int, List.map_take]
             rfl
           exact ints_eq (s36 _ _ eF2) upd_same (fin _))
        | (rw [if_neg q1] at fef
           refine ite2 (fun z => absurd (of_decide_eq_true z) (show ¬ ((1 : Int) < (M : Int)) by omega)) (fun _ => ⟨by show 1 ≤ sizeLine; decide, fun l5 n5 => ?_⟩)
           have eF2 : H35 Fe = some (.lst (([4] : List Int).map V.int)) := by
             rw [eFe, fef]
             rfl
           exact ints_eq (l := [4]) ((same_upd n5) _ _ eF2) upd_same (fin _))
end
end Sk


namespace Sk
open PySem PySem.Spec PyProof.Rows L2
/-! ### looking at the errors' classes -/
def mroB (C : Addr) : List Value → Bool
  | .ref D :: r => decide (D = C) && PySem.HandSPX.refsVE r
  | _ => false
theorem mroB_ok {C : Addr} : ∀ {l : List Value}, mroB C l = true → ∃ r, l = .ref C :: r ∧ PySem.HandSPX.refsVE r = true
  | .ref D :: r, h => by
    obtain ⟨h1, h2⟩ := He.ba h
    rw [of_decide_eq_true h1]
    exact ⟨r, rfl, h2⟩
def slB : List (Option Value) → Bool
  | [_, _, _, _, some (.builtin n), _] => decide (n = "ValueError.__new__")
  | _ => false
theorem slB_ok : ∀ {l : List (Option Value)}, slB l = true → ∃ k0 k1 k2 k3 k5, l = [k0, k1, k2, k3, some (.builtin "ValueError.__new__"), k5]
  | [k0, k1, k2, k3, some (.builtin n), k5], h => by
    rw [of_decide_eq_true h]
    exact ⟨k0, k1, k2, k3, k5, rfl⟩
def clsB (K : PySem.W.Frag) (C : Addr) : Bool := match K.lookup C with
  | some ⟨.type t, _, .cls cd, sl⟩ => decide (t = "type") && (cd.hasDict && ((!cd.hasDel) && (mroB C cd.mro && slB sl.toList)))
  | _ => false
theorem clsB_ok {K : PySem.W.Frag} {C : Addr} (h : clsB K C = true) : ∃ nm q N bs bm sn sub ab col dd k0 k1 k2 k3 k5, K.lookup C = some (excClassObj nm q C N bs bm true sn sub ab col dd k0 k1 k2 k3 k5 "ValueError.__new__") ∧ PySem.HandSPX.refsVE bm = true := by
  unfold clsB at h
  split at h
  · rename_i t dd cd sl e
    obtain ⟨h1, h⟩ := He.ba h
    obtain ⟨h2, h⟩ := He.ba h
    obtain ⟨h3, h⟩ := He.ba h
    obtain ⟨h4, h5⟩ := He.ba h
    have et := of_decide_eq_true h1
    obtain ⟨nm, bs, mro, ns, qn, hd, sn, sub, ab, col, dl⟩ := cd
    obtain ⟨sl⟩ := sl
    dsimp only at h2 h3 h4 h5
    subst h2
    have e3 : dl = false := by
      cases dl with
      | false => rfl
      | true => cases h3
    obtain ⟨r, e4, h7⟩ := mroB_ok h4
    obtain ⟨k0, k1, k2, k3, k5, e5⟩ := slB_ok h5
    subst e3 et e4 e5
    exact ⟨nm, qn, ns, bs, r, sn, sub, ab, col, dd, k0, k1, k2, k3, k5, e, h7⟩
  · cases h
def gotB (K : PySem.W.Frag) (v : Value) (n : Str) (b : String) : Bool := decide (PySem.W.findIn K v n = some (some (.builtin b)))
def lackB (K : PySem.W.Frag) (C : Addr) (n : Str) : Bool := He.eqO (PySem.W.findIn K (.ref C) n) (some none)
def oexB (K : PySem.W.Frag) (C : Addr) : Bool := clsB K C && (gotB K (.ref C) "__setattr__" "object.__setattr__" && (decide (PySem.W.subIn K (.ref C) (.type "BaseException") = some true) && (decide (PySem.W.typeIn K (.ref C) = some (.type "type")) && PySem.W.keepIn K (.ref C))))
theorem oexB_ok {K : PySem.W.Frag} {C : Addr} (h : oexB K C = true) : OexC K C := by
  obtain ⟨h1, h⟩ := He.ba h
  obtain ⟨h2, h⟩ := He.ba h
  obtain ⟨h3, h⟩ := He.ba h
  obtain ⟨h4, h5⟩ := He.ba h
  exact ⟨clsB_ok h1, of_decide_eq_true h2, of_decide_eq_true h3, of_decide_eq_true h4, h5⟩
def baseB (K : PySem.W.Frag) (B : Addr) : Bool := PySem.W.readsIn K B (.type "type") && (decide (PySem.W.specialIn K (.ref B) "__getattribute__" = some (some (.builtin "type.__getattribute__"))) && (match PySem.W.findCls K (.ref B) (.type "type") "__init__" with
  | some (.val (.builtin n)) => decide (n = "ValueError.__init__")
  | _ => false))
theorem baseB_ok {K : PySem.W.Frag} {B : Addr} (h : baseB K B = true) : BaseI K B (.type "type") := by
  obtain ⟨h1, h⟩ := He.ba h
  obtain ⟨h2, h3⟩ := He.ba h
  refine ⟨h1, of_decide_eq_true h2, ?_⟩
  split at h3
  · rename_i n e
    rw [e, of_decide_eq_true h3]
  · cases h3
/-- an own __init__ -/
def initB (K : PySem.W.Frag) (x : Str) : Bool := decide (PySem.W.findIn K (.ref (He.ga K x)) "__init__" = some (some (.ref (He.fAd K (x, some "__init__"))))) && decide (PySem.W.typeIn K (.ref (He.fAd K (x, some "__init__"))) = some (.type "function"))
theorem initB_ok {K : PySem.W.Frag} {x : Str} (h : initB K x = true) : PySem.W.findIn K (.ref (He.ga K x)) "__init__" = some (some (.ref (He.fAd K (x, some "__init__")))) ∧ PySem.W.typeIn K (.ref (He.fAd K (x, some "__init__"))) = some (.type "function") := by
  obtain ⟨h1, h2⟩ := He.ba h
  exact ⟨of_decide_eq_true h1, of_decide_eq_true h2⟩
end Sk


namespace Sk
open PySem PySem.Spec PyProof.Rows L2
abbrev RowK : PySem.W.OpenRow := PySem.W.OpenLaw.row PySem.Challenge.rw_stalestack_k90_known_edges
def dOf (x : Str) (st : Stmt) : He.DefD := ⟨(x, none), x, x, defArgs st, defBody st, defScope st, [], []⟩
def dMe (m : Str) (st : Stmt) : He.DefD := ⟨("Machine", some m), m, "Machine." ++ m, defArgs st, defBody st, defScope st, [], []⟩
def dIn (C q : Str) (st : Stmt) : He.DefD := ⟨(C, some "__init__"), "__init__", q, defArgs st, defBody st, defScope st, [], []⟩
def fnK : List He.DefD := ([dOf "is_value" sIsVal, dOf "is_deed" sIsDeed, dOf "check_values" sChkV, dOf "first_bad_deed" sFirst, dOf "check_programs" s_check_programs, dOf "are_rising_hands" s_are_rising_hands, dOf "is_rule" s_is_rule, dOf "check_pile_and_programs" s_check_pile_and_programs, dOf "check_all" s_check_all, dOf "ahead_of" s_ahead_of, dOf "first_state" s_first_state, dOf "replaced" s_replaced, dOf "with_hand" s_with_hand, dOf "with_deed_done" s_with_deed_done, dOf "to_read_anew" s_to_read_anew, dOf "place_to_take" s_place_to_take, dOf "take" s_take, dOf "read" s_read, dOf "link" s_link, dOf "mark_or_look" s_mark_or_look, dOf "follow" s_follow, dOf "with_top" s_with_top, dOf "exchange" s_exchange, dOf "let_go" s_let_go, dOf "step" s_step, dOf "decides" s_decides, dOf "was_stale" s_was_stale, dOf "_law_dice" sDice, dOf "_law_next" sNext, dOf "_law_bad" s_law_bad] : List He.DefD) ++ ([dOf "_law_done" s_law_done, dOf "law" sLaw, dMe "__init__" s_Machine_init, dMe "check_hand" s_Machine_check_hand, dMe "turn" s_Machine_turn, dMe "answers" s_Machine_answers, dMe "marked" s_Machine_marked, dMe "order" s_Machine_order, dMe "top_now" s_Machine_top_now, dMe "nexts" s_Machine_nexts, dMe "free" s_Machine_free, dMe "pile" s_Machine_pile, dMe "pile_values" s_Machine_pile_values, dMe "is_stale" s_Machine_is_stale, dMe "is_done" s_Machine_is_done, dIn "BadPile" "BadPile.__init__" sInitP, dIn "BadDeed" "BadDeed.__init__" sInitD] : List He.DefD)
def faK : List He.Fa := ([.glo "PileError", .glo "BadPile", .glo "BadDeed", .glo "BadRule", .glo "NoHand", .glo "POP", .glo "is_value", .glo "is_deed", .glo "check_values", .glo "first_bad_deed", .glo "check_programs", .glo "are_rising_hands", .glo "is_rule", .glo "check_pile_and_programs", .glo "check_all", .glo "ahead_of", .glo "first_state", .glo "replaced", .glo "with_hand", .glo "with_deed_done", .glo "to_read_anew", .glo "place_to_take", .glo "take", .glo "read", .glo "link", .glo "mark_or_look", .glo "follow", .glo "with_top", .glo "exchange", .glo "let_go"] : List He.Fa) ++ ([.glo "step", .glo "decides", .glo "was_stale", .glo "Machine", .glo "_law_dice", .glo "_law_next", .glo "_law_bad", .glo "_law_done", .glo "law", .int "MOST_VALUES" 6, .int "HIGHEST_VALUE" 99, .int "MOST_HANDS" 3, .int "MOST_DEEDS" 4, .int "MOST_COUNTS" 15, .int "TOP" 0, .int "COUNT" 1, .int "NEXTS" 2, .int "FREE" 3, .int "VALUES" 4, .int "HANDS" 5, .int "NUMBER" 0, .int "PHASE" 1, .int "CELL" 2, .int "TOP_READ" 3, .int "COUNT_READ" 4, .int "FOLLOWED" 5, .int "MARK" 6, .int "TO_READ" 0, .int "HAS_READ" 1, .int "HAS_LOOKED" 2] : List He.Fa) ++ ([.int "TO_EXCHANGE" 3, .int "HAS_EXCHANGED" 4, .free "len", .free "int", .free "isinstance", .free "bool", .free "str", .free "dict", .free "tuple", .free "list", .free "range", .free "enumerate", .free "zip", .free "ValueError", .free "sum", .free "min", .free "max", .free "sorted", .free "any", .free "all", .cls "Machine", .mkr "Machine", .noat "Machine" "programs", .noat "Machine" "rule", .noat "Machine" "state", .noat "Machine" "answered", .noat "Machine" "decided", .noat "Machine" "had_stale", .meth "Machine" "check_hand", .meth "Machine" "turn"] : List He.Fa) ++ ([.meth "Machine" "answers", .meth "Machine" "marked", .meth "Machine" "order", .meth "Machine" "top_now", .meth "Machine" "nexts", .meth "Machine" "free", .meth "Machine" "pile", .meth "Machine" "pile_values", .meth "Machine" "is_stale", .meth "Machine" "is_done", .exm "BadDeed" "BadDeed" true, .exm "BadPile" "PileError" true, .exm "BadDeed" "PileError" true, .exm "BadRule" "PileError" true, .exm "NoHand" "PileError" true] : List He.Fa)
def exK (K : PySem.W.Frag) : List Bool := [He.tupB K "POP" [.str "pop"], baseB K (He.ga K "PileError"), oexB K (He.ga K "BadPile"), oexB K (He.ga K "BadDeed"), initB K "BadPile", initB K "BadDeed", lackB K (He.ga K "BadPile") "at", lackB K (He.ga K "BadDeed") "hand", lackB K (He.ga K "BadDeed") "number", xfB K (He.ga K "BadPile"), xfB K (He.ga K "BadDeed")]
abbrev AlR : Type := He.AlD × Bool
/-- the names' reach and the statics -/
def asR (g : Addr → Option Obj) (n : Nat) : List Addr := PySem.cStatics :: He.asD g n
def obsR (n : Nat) (fa : List He.Fa) (fn : List He.DefD) (ex : PySem.W.Frag → List Bool) (g : Addr → Option Obj) : AlR := (He.obsD fa fn (He.frG g (asR g n)), (ex (He.frG g (asR g n))).all id)
structure SaysR (fa : List He.Fa) (fn : List He.DefD) (ex : PySem.W.Frag → List Bool) (K : PySem.W.Frag) : Prop where
  d : He.SaysD fa fn K
  more : (ex K).all id = true
theorem SaysR.ex {fa : List He.Fa} {fn : List He.DefD} {ex : PySem.W.Frag → List Bool} {K : PySem.W.Frag} (c : SaysR fa fn ex K) {b : Bool} (h : b ∈ ex K) : b = true := List.all_eq_true.mp c.more b h
def hookR (n : Nat) (fa : List He.Fa) (fn : List He.DefD) (ex : PySem.W.Frag → List Bool) : PySem.W.Hook where
  α := AlR
  obs := fun s => obsR n fa fn ex s.heap.get?
  val := fun _ => (He.valD fn, true)
  says := fun _ h => ∃ K : PySem.W.Frag, K.In h ∧ SaysR fa fn ex K
  of := fun _ _ e => ⟨_, He.frG_in, congrArg (fun z : AlR => z.1) e, congrArg (fun z : AlR => z.2) e⟩
  keeps := fun _ _ _ ⟨K, hK, c⟩ k => ⟨K, PySem.W.Frag.In.keeps hK k, c⟩
theorem obsR_eq {n : Nat} {fa : List He.Fa} {fn : List He.DefD} {ex : PySem.W.Frag → List Bool} {g : Addr → Option Obj} {s : Shared} (h : ∀ a, g a = s.heap.get? a) : obsR n fa fn ex g = (hookR n fa fn ex).obs s := by
  rw [show g = s.heap.get? from funext h] <;> rfl
abbrev hkK : PySem.W.Hook := hookR 6 faK fnK exK
def obK (s : PySem.W.SharedT) : AlR := obsR 6 faK fnK exK (HandSHeadRun.getT s)
theorem obK_eq (s : PySem.W.SharedT) : obK s = hkK.obs s.abs := obsR_eq (HandSHeadRun.getT_eq s)
def looseK : List Str := (["_wall", "__name__", "PileError", "BadPile", "BadDeed", "BadRule", "NoHand", "MOST_VALUES", "HIGHEST_VALUE", "POP", "is_value", "is_deed", "check_values", "first_bad_deed", "MOST_HANDS", "MOST_DEEDS", "MOST_COUNTS", "check_programs", "are_rising_hands", "is_rule", "check_pile_and_programs", "check_all", "TOP", "COUNT", "NEXTS", "FREE", "VALUES", "HANDS", "NUMBER", "PHASE"] : List Str) ++ (["CELL", "TOP_READ", "COUNT_READ", "FOLLOWED", "MARK", "TO_READ", "HAS_READ", "HAS_LOOKED", "TO_EXCHANGE", "HAS_EXCHANGED", "ahead_of", "first_state", "replaced", "with_hand", "with_deed_done", "to_read_anew", "place_to_take", "take", "read", "link", "mark_or_look", "follow", "with_top", "exchange", "let_go", "step", "decides", "was_stale", "Machine", "_law_dice"] : List Str) ++ (["_law_next", "_law_bad", "_law_done"] : List Str)
theorem runK (w : World) : HandSHeadRun.RunEq RowK (PySem.W.view RowK.prog [68]) hkK obK 20000 looseK w := by
  intro os
  kernel_rfl
end Sk


namespace Sk
open PySem PySem.Spec PyProof.Rows L2
section
variable {P : Program} {w : World} {K : PySem.W.Frag} {h : Heap} {mg : Str → Option Value} {f : Addr}
theorem defAt (X : K.In h) (G : h.Ns mainGlobals mg) (c : SaysR faK fnK exK K) (x : Str) (st : Stmt) (h1 : dOf x st ∈ fnK) (h2 : He.Fa.glo x ∈ faK) : DefAt K mg x st := by
  obtain ⟨fd, F⟩ := c.d.defs h1
  exact ⟨_, fd, F, He.glo_ok X G (c.d.facts h2)⟩
theorem methAt (c : SaysR faK fnK exK K) (m : Str) (st : Stmt) (h1 : dMe m st ∈ fnK) (h2 : He.Fa.meth "Machine" m ∈ faK) : MethAt K (He.ga K "Machine") m ("Machine." ++ m) st := by
  obtain ⟨fd, F⟩ := c.d.defs h1
  exact ⟨_, fd, F, He.meth_ok (c.d.facts h2)⟩
theorem facts (X : K.In h) (G : h.Ns mainGlobals mg) (hfa : mg ("law" : Str) = some (.ref f)) (c : SaysR faK fnK exK K) :
    ∃ fd : FuncData, (∀ (s : Shared) (v : Value), BindsTo s fd ⟨[v], []⟩ [("_law_script", v)]) ∧ ∀ base : Heap, K.In base → base.Ns mainGlobals mg → FnOk P w K mg base CX0 10 f fd ["_law_script"] (spLaw K) := by
  have B : TxB mg := ⟨(He.free_ok X G (c.d.facts (List.mem_of_getElem? (i := 62) rfl))), (He.free_ok X G (c.d.facts (List.mem_of_getElem? (i := 63) rfl))), (He.free_ok X G (c.d.facts (List.mem_of_getElem? (i := 64) rfl))), (He.free_ok X G (c.d.facts (List.mem_of_getElem? (i := 65) rfl))), (He.free_ok X G (c.d.facts (List.mem_of_getElem? (i := 66) rfl))), (He.free_ok X G (c.d.facts (List.mem_of_getElem? (i := 67) rfl))), (He.free_ok X G (c.d.facts (List.mem_of_getElem? (i := 68) rfl))), (He.free_ok X G (c.d.facts (List.mem_of_getElem? (i := 69) rfl))), (He.free_ok X G (c.d.facts (List.mem_of_getElem? (i := 70) rfl))), (He.free_ok X G (c.d.facts (List.mem_of_getElem? (i := 71) rfl))), (He.free_ok X G (c.d.facts (List.mem_of_getElem? (i := 73) rfl))), (He.free_ok X G (c.d.facts (List.mem_of_getElem? (i := 74) rfl))), (He.free_ok X G (c.d.facts (List.mem_of_getElem? (i := 77) rfl))), (He.free_ok X G (c.d.facts (List.mem_of_getElem? (i := 75) rfl))), (He.free_ok X G (c.d.facts (List.mem_of_getElem? (i := 76) rfl)))⟩
  have pop : ∃ p, TxPop K mg p := ⟨_, ⟨(He.glo_ok X G (c.d.facts (List.mem_of_getElem? (i := 5) rfl))), fun H => He.tupB_ok (c.ex (b := He.tupB K "POP" [.str "pop"]) (by simp [exK])) H⟩⟩
  have TC : TxC mg := ⟨(He.int_ok X G (c.d.facts (List.mem_of_getElem? (i := 44) rfl))), (He.int_ok X G (c.d.facts (List.mem_of_getElem? (i := 45) rfl))), (He.int_ok X G (c.d.facts (List.mem_of_getElem? (i := 46) rfl))), (He.int_ok X G (c.d.facts (List.mem_of_getElem? (i := 47) rfl))), (He.int_ok X G (c.d.facts (List.mem_of_getElem? (i := 48) rfl))), (He.int_ok X G (c.d.facts (List.mem_of_getElem? (i := 49) rfl))), (He.int_ok X G (c.d.facts (List.mem_of_getElem? (i := 50) rfl))), (He.int_ok X G (c.d.facts (List.mem_of_getElem? (i := 51) rfl))), (He.int_ok X G (c.d.facts (List.mem_of_getElem? (i := 52) rfl))), (He.int_ok X G (c.d.facts (List.mem_of_getElem? (i := 53) rfl))), (He.int_ok X G (c.d.facts (List.mem_of_getElem? (i := 54) rfl))), (He.int_ok X G (c.d.facts (List.mem_of_getElem? (i := 55) rfl))), (He.int_ok X G (c.d.facts (List.mem_of_getElem? (i := 56) rfl))), (He.int_ok X G (c.d.facts (List.mem_of_getElem? (i := 57) rfl))), (He.int_ok X G (c.d.facts (List.mem_of_getElem? (i := 58) rfl))), (He.int_ok X G (c.d.facts (List.mem_of_getElem? (i := 59) rfl))), (He.int_ok X G (c.d.facts (List.mem_of_getElem? (i := 60) rfl))), (He.int_ok X G (c.d.facts (List.mem_of_getElem? (i := 61) rfl)))⟩
  have TS : TxS K mg := ⟨(defAt X G c "ahead_of" s_ahead_of (List.mem_of_getElem? (i := 9) rfl) (List.mem_of_getElem? (i := 15) rfl)), (defAt X G c "first_state" s_first_state (List.mem_of_getElem? (i := 10) rfl) (List.mem_of_getElem? (i := 16) rfl)), (defAt X G c "replaced" s_replaced (List.mem_of_getElem? (i := 11) rfl) (List.mem_of_getElem? (i := 17) rfl)), (defAt X G c "with_hand" s_with_hand (List.mem_of_getElem? (i := 12) rfl) (List.mem_of_getElem? (i := 18) rfl)), (defAt X G c "with_deed_done" s_with_deed_done (List.mem_of_getElem? (i := 13) rfl) (List.mem_of_getElem? (i := 19) rfl)), (defAt X G c "to_read_anew" s_to_read_anew (List.mem_of_getElem? (i := 14) rfl) (List.mem_of_getElem? (i := 20) rfl)), (defAt X G c "place_to_take" s_place_to_take (List.mem_of_getElem? (i := 15) rfl) (List.mem_of_getElem? (i := 21) rfl)), (defAt X G c "take" s_take (List.mem_of_getElem? (i := 16) rfl) (List.mem_of_getElem? (i := 22) rfl)), (defAt X G c "read" s_read (List.mem_of_getElem? (i := 17) rfl) (List.mem_of_getElem? (i := 23) rfl)), (defAt X G c "link" s_link (List.mem_of_getElem? (i := 18) rfl) (List.mem_of_getElem? (i := 24) rfl)), (defAt X G c "mark_or_look" s_mark_or_look (List.mem_of_getElem? (i := 19) rfl) (List.mem_of_getElem? (i := 25) rfl)), (defAt X G c "follow" s_follow (List.mem_of_getElem? (i := 20) rfl) (List.mem_of_getElem? (i := 26) rfl)), (defAt X G c "with_top" s_with_top (List.mem_of_getElem? (i := 21) rfl) (List.mem_of_getElem? (i := 27) rfl)), (defAt X G c "exchange" s_exchange (List.mem_of_getElem? (i := 22) rfl) (List.mem_of_getElem? (i := 28) rfl)), (defAt X G c "let_go" s_let_go (List.mem_of_getElem? (i := 23) rfl) (List.mem_of_getElem? (i := 29) rfl)), (defAt X G c "step" s_step (List.mem_of_getElem? (i := 24) rfl) (List.mem_of_getElem? (i := 30) rfl)), TC, pop, (He.free_ok X G (c.d.facts (List.mem_of_getElem? (i := 62) rfl))), (He.free_ok X G (c.d.facts (List.mem_of_getElem? (i := 68) rfl))), (He.free_ok X G (c.d.facts (List.mem_of_getElem? (i := 70) rfl))), (He.free_ok X G (c.d.facts (List.mem_of_getElem? (i := 71) rfl)))⟩
  have TT : TxT K mg := ⟨(defAt X G c "decides" s_decides (List.mem_of_getElem? (i := 25) rfl) (List.mem_of_getElem? (i := 31) rfl)), (defAt X G c "was_stale" s_was_stale (List.mem_of_getElem? (i := 26) rfl) (List.mem_of_getElem? (i := 32) rfl))⟩
  have TK : TxK K mg := ⟨(defAt X G c "is_value" sIsVal (List.mem_of_getElem? (i := 0) rfl) (List.mem_of_getElem? (i := 6) rfl)), (defAt X G c "is_deed" sIsDeed (List.mem_of_getElem? (i := 1) rfl) (List.mem_of_getElem? (i := 7) rfl)), (defAt X G c "check_values" sChkV (List.mem_of_getElem? (i := 2) rfl) (List.mem_of_getElem? (i := 8) rfl)), (defAt X G c "first_bad_deed" sFirst (List.mem_of_getElem? (i := 3) rfl) (List.mem_of_getElem? (i := 9) rfl)), (defAt X G c "check_programs" s_check_programs (List.mem_of_getElem? (i := 4) rfl) (List.mem_of_getElem? (i := 10) rfl)), (defAt X G c "are_rising_hands" s_are_rising_hands (List.mem_of_getElem? (i := 5) rfl) (List.mem_of_getElem? (i := 11) rfl)), (defAt X G c "is_rule" s_is_rule (List.mem_of_getElem? (i := 6) rfl) (List.mem_of_getElem? (i := 12) rfl)), (defAt X G c "check_pile_and_programs" s_check_pile_and_programs (List.mem_of_getElem? (i := 7) rfl) (List.mem_of_getElem? (i := 13) rfl)), (defAt X G c "check_all" s_check_all (List.mem_of_getElem? (i := 8) rfl) (List.mem_of_getElem? (i := 14) rfl)), (He.int_ok X G (c.d.facts (List.mem_of_getElem? (i := 40) rfl))), (He.int_ok X G (c.d.facts (List.mem_of_getElem? (i := 39) rfl))), (He.int_ok X G (c.d.facts (List.mem_of_getElem? (i := 41) rfl))), (He.int_ok X G (c.d.facts (List.mem_of_getElem? (i := 42) rfl))), (He.int_ok X G (c.d.facts (List.mem_of_getElem? (i := 43) rfl))), pop, (He.free_ok X G (c.d.facts (List.mem_of_getElem? (i := 62) rfl))), (He.free_ok X G (c.d.facts (List.mem_of_getElem? (i := 71) rfl))), (He.free_ok X G (c.d.facts (List.mem_of_getElem? (i := 64) rfl))), (He.free_ok X G (c.d.facts (List.mem_of_getElem? (i := 63) rfl))), (He.free_ok X G (c.d.facts (List.mem_of_getElem? (i := 68) rfl)))⟩
  have TM : TxM K mg (He.ga K "Machine") := ⟨(He.glo_ok X G (c.d.facts (List.mem_of_getElem? (i := 33) rfl))), He.cls_ok (c.d.facts (List.mem_of_getElem? (i := 80) rfl)), (He.noat_ok (c.d.facts (List.mem_of_getElem? (i := 82) rfl))), (He.noat_ok (c.d.facts (List.mem_of_getElem? (i := 83) rfl))), (He.noat_ok (c.d.facts (List.mem_of_getElem? (i := 84) rfl))), (He.noat_ok (c.d.facts (List.mem_of_getElem? (i := 85) rfl))), (He.noat_ok (c.d.facts (List.mem_of_getElem? (i := 86) rfl))), (He.noat_ok (c.d.facts (List.mem_of_getElem? (i := 87) rfl))), by obtain ⟨fd, F⟩ := c.d.defs (List.mem_of_getElem? (i := 32) rfl : dMe "__init__" s_Machine_init ∈ fnK); exact ⟨_, fd, F, He.mkr_ok (c.d.facts (List.mem_of_getElem? (i := 81) rfl))⟩, (methAt c "check_hand" s_Machine_check_hand (List.mem_of_getElem? (i := 33) rfl) (List.mem_of_getElem? (i := 88) rfl)), (methAt c "turn" s_Machine_turn (List.mem_of_getElem? (i := 34) rfl) (List.mem_of_getElem? (i := 89) rfl)), (methAt c "answers" s_Machine_answers (List.mem_of_getElem? (i := 35) rfl) (List.mem_of_getElem? (i := 90) rfl)), (methAt c "order" s_Machine_order (List.mem_of_getElem? (i := 37) rfl) (List.mem_of_getElem? (i := 92) rfl)), (methAt c "pile" s_Machine_pile (List.mem_of_getElem? (i := 41) rfl) (List.mem_of_getElem? (i := 96) rfl)), (methAt c "pile_values" s_Machine_pile_values (List.mem_of_getElem? (i := 42) rfl) (List.mem_of_getElem? (i := 97) rfl)), (methAt c "is_stale" s_Machine_is_stale (List.mem_of_getElem? (i := 43) rfl) (List.mem_of_getElem? (i := 98) rfl)), (methAt c "is_done" s_Machine_is_done (List.mem_of_getElem? (i := 44) rfl) (List.mem_of_getElem? (i := 99) rfl)), TS, TT, TK, (He.free_ok X G (c.d.facts (List.mem_of_getElem? (i := 62) rfl))), (He.free_ok X G (c.d.facts (List.mem_of_getElem? (i := 69) rfl))), (He.free_ok X G (c.d.facts (List.mem_of_getElem? (i := 68) rfl))), (He.free_ok X G (c.d.facts (List.mem_of_getElem? (i := 72) rfl))), (He.free_ok X G (c.d.facts (List.mem_of_getElem? (i := 70) rfl)))⟩
  obtain ⟨dP, FP⟩ : ∃ fd, FnP K "__init__" "BadPile.__init__" sInitP (He.fAd K ("BadPile", some "__init__")) fd := c.d.defs (List.mem_of_getElem? (i := 45) rfl : dIn "BadPile" "BadPile.__init__" sInitP ∈ fnK)
  obtain ⟨dD, FD⟩ : ∃ fd, FnP K "__init__" "BadDeed.__init__" sInitD (He.fAd K ("BadDeed", some "__init__")) fd := c.d.defs (List.mem_of_getElem? (i := 46) rfl : dIn "BadDeed" "BadDeed.__init__" sInitD ∈ fnK)
  have iP := initB_ok (c.ex (b := initB K "BadPile") (by simp [exK]))
  have iD := initB_ok (c.ex (b := initB K "BadDeed") (by simp [exK]))
  have nP : PySem.W.findIn K (.ref (He.ga K "BadPile")) "at" = some none := He.eqO_ok (c.ex (b := lackB K (He.ga K "BadPile") "at") (by simp [exK]))
  have nH : PySem.W.findIn K (.ref (He.ga K "BadDeed")) "hand" = some none := He.eqO_ok (c.ex (b := lackB K (He.ga K "BadDeed") "hand") (by simp [exK]))
  have nN : PySem.W.findIn K (.ref (He.ga K "BadDeed")) "number" = some none := He.eqO_ok (c.ex (b := lackB K (He.ga K "BadDeed") "number") (by simp [exK]))
  have TE : TxErr K mg (He.ga K "PileError") (He.ga K "BadPile") (He.ga K "BadDeed") (He.fAd K ("BadPile", some "__init__")) (He.fAd K ("BadDeed", some "__init__")) (.type "type") := ⟨(He.glo_ok X G (c.d.facts (List.mem_of_getElem? (i := 0) rfl))), baseB_ok (c.ex (b := baseB K (He.ga K "PileError")) (by simp [exK])), (He.glo_ok X G (c.d.facts (List.mem_of_getElem? (i := 1) rfl))), oexB_ok (c.ex (b := oexB K (He.ga K "BadPile")) (by simp [exK])), iP.1, iP.2, nP, (He.glo_ok X G (c.d.facts (List.mem_of_getElem? (i := 2) rfl))), oexB_ok (c.ex (b := oexB K (He.ga K "BadDeed")) (by simp [exK])), iD.1, iD.2, nH, nN⟩
  have TI : TxEI K mg (He.ga K "PileError") (He.ga K "BadPile") (He.ga K "BadDeed") (He.fAd K ("BadPile", some "__init__")) (He.fAd K ("BadDeed", some "__init__")) (.type "type") := ⟨TE, ⟨dP, FP⟩, ⟨dD, FD⟩⟩
  have TC : TxCaught K mg (He.ga K "BadDeed") := ⟨(He.glo_ok X G (c.d.facts (List.mem_of_getElem? (i := 2) rfl))), He.exm_ok (c.d.facts (List.mem_of_getElem? (i := 100) rfl)), xfB_ok (c.ex (b := xfB K (He.ga K "BadDeed")) (by simp [exK])), nH, nN⟩
  obtain ⟨fl, fd, F, gF⟩ := ((defAt X G c "law" sLaw (List.mem_of_getElem? (i := 31) rfl) (List.mem_of_getElem? (i := 38) rfl))).ex
  have e := hfa.symm.trans gF
  cases e
  have b := FunD.bindsA (ps := ["_law_script"]) F fun _ _ _ _ _ _ us hl => match us, hl with | [_], _ => rfl
  refine ⟨fd, fun s v => b s [v] rfl, fun base hb hns => ?_⟩
  exact ok_law F TM TI TC (defAt X G c "_law_dice" sDice (List.mem_of_getElem? (i := 27) rfl) (List.mem_of_getElem? (i := 34) rfl)) (defAt X G c "_law_next" sNext (List.mem_of_getElem? (i := 28) rfl) (List.mem_of_getElem? (i := 35) rfl)) (defAt X G c "_law_bad" s_law_bad (List.mem_of_getElem? (i := 29) rfl) (List.mem_of_getElem? (i := 36) rfl)) (defAt X G c "_law_done" s_law_done (List.mem_of_getElem? (i := 30) rfl) (List.mem_of_getElem? (i := 37) rfl)) (methAt c "free" s_Machine_free (List.mem_of_getElem? (i := 40) rfl) (List.mem_of_getElem? (i := 95) rfl)) (methAt c "marked" s_Machine_marked (List.mem_of_getElem? (i := 36) rfl) (List.mem_of_getElem? (i := 91) rfl)) ⟨(He.free_ok X G (c.d.facts (List.mem_of_getElem? (i := 62) rfl))), (He.free_ok X G (c.d.facts (List.mem_of_getElem? (i := 63) rfl))), (He.free_ok X G (c.d.facts (List.mem_of_getElem? (i := 70) rfl)))⟩
end
end Sk
open PySem PySem.W PySem.Calls PyProof.Rows
theorem PySem.Challenge.cw_stalestack_k90_known_edges_holds : PySem.Challenge.rw_stalestack_k90_known_edges.Holds := by
  w_on; o_law
  refine HandSHeadRun.head_any (r := Sk.RowK) (q := view Sk.RowK.prog [68]) (H := Sk.hkK) (ob := Sk.obK) (M := 20000) (loose := Sk.looseK) (d := HandSHeadRun.topDef Sk.RowK.prog 68) (kwd := []) Sk.obK_eq
    (by kernel_rfl) (fun s => by kernel_rfl) Sk.runK (by kernel_rfl) (by kernel_rfl) (by kernel_rfl) (by rfl) (by first | assumption | decide +kernel) (by decide +kernel) ⟨rfl, rfl, rfl, rfl, rfl, by decide +kernel⟩ ?hw ?hc
  case hw => w_witness2
  case hc =>
    refine L2.walk_ofE (l := PySem.Challenge.rw_stalestack_k90_known_edges) (n := 63) (k := 10) (x := "_law_script") (CX := L2.CX0) rfl (by decide) (by kernel_rfl) ⟨rfl, by decide, by decide⟩ ?F (fun _ _ _ _ z => z)
    intro w mg fa h Y G hmg0
    obtain ⟨K, KX, c⟩ := Y
    have hmg : mg ("law" : PySem.Str) = some (.ref fa) := by
      have e : (HandSHeadRun.topDef Sk.RowK.prog 68).name = ("law" : PySem.Str) := by kernel_rfl
      rw [← e]
      exact hmg0
    obtain ⟨fd, hb, hF⟩ := Sk.facts (P := (PySem.Challenge.rw_stalestack_k90_known_edges).prog) (w := w) KX G hmg c
    exact ⟨K, fd, Sk.spLaw K, KX, hb, fun H a ns hl _ hS => ⟨a, ns, rfl, hS, fun _ => rfl⟩, hF⟩


