import PyProof.Rows.All
import Wide.All
import OpenK.AllK
import Wide.FinOn
import HandS.ForMost
import HandS.Codes
import HandS.Evl
import HandS.IsInst
import HandS.Wide
import HandS.SortKw
import HandS.TupLe
import HandS.CallLocal
import HandS.More
import PySem.Challenge.RW_stylobate_k10_operations_on_two_values
set_option Elab.async false
set_option linter.all false
set_option maxRecDepth 100000
set_option maxHeartbeats 4000000
namespace My
open PySem PySem.Spec PyProof.Rows L2 Evl
/-! ### defs of the text, promises, the end -/
def Dn (K : PySem.W.Frag) (mg : Str → Option Value) (x : Str) (st : Stmt) (ps : List Str) : Prop := ∃ f fd, C8.Def K mg x st f fd ∧ Binds K fd ps []
section
variable {P : Program} {w : World} {K : PySem.W.Frag} {mg : Str → Option Value} {base : Heap}
theorem cal_of {x : Str} {st : Stmt} {N ps : List Str} {k : Nat} {sp : Sp} (D : Dn K mg x st ps) (S : FnScope N ps (C8.fnScope st)) (len : ∀ vs H Q E, sp vs H Q E → vs.length = ps.length)
    (hbody : ∀ (f : Addr) (cdv : Value) (A : Around) (outer : List Env) (s : Shared) (H : Hp) (vs : List V) (Q : VK) (E : XK), Room k (A.deeper (envOfC x (C8.fnScope st) s.heap.objs.size f cdv)) → sp vs H Q E →
      ∃ t, PSs (cxOf C8.CX0 P w K mg base N x (C8.fnScope st) f cdv A outer s H E).nox (C8.fnBody st) t ∧ t { nx := fun _ H' => Q .non H', rt := Q } (start N vs) H) : C8.Cal P w K mg base (k + 1) x sp [] := by
  obtain ⟨f, fd, F, b⟩ := D
  exact C8.cal0 F b .nil S len (hbody f)
theorem def_mk {x : Str} {st : Stmt} {f : Addr} {oc : Value} {od an : Option Addr} {osl : Array (Option Value)} {kV doc pm cdv ct : Value}
    (l : K.lookup f = some ⟨oc, od, .func (PySem.W.fnOf x x (C8.fnArgs st) (C8.fnBody st) (C8.fnScope st) .none kV doc pm an cdv ct), osl⟩)
    (c : PySem.W.codeIn K cdv x = true) (k : PySem.W.keepIn K (.ref f) = true) (m : mg x = some (.ref f)) : C8.Def K mg x st f (PySem.W.fnOf x x (C8.fnArgs st) (C8.fnBody st) (C8.fnScope st) .none kV doc pm an cdv ct) :=
  ⟨⟨oc, od, .none, kV, doc, pm, an, cdv, ct, osl, rfl, l, c⟩, m, k⟩
theorem dn_mk {x : Str} {st : Stmt} {f : Addr} {oc : Value} {od an : Option Addr} {osl : Array (Option Value)} {kV doc pm cdv ct : Value} {ps : List Str}
    (l : K.lookup f = some ⟨oc, od, .func (PySem.W.fnOf x x (C8.fnArgs st) (C8.fnBody st) (C8.fnScope st) .none kV doc pm an cdv ct), osl⟩)
    (c : PySem.W.codeIn K cdv x = true) (k : PySem.W.keepIn K (.ref f) = true) (m : mg x = some (.ref f))
    (h : ∀ (kV doc pm : Value) (an : Option Addr) (cdv ct : Value) (us : List Value), us.length = ps.length → bindArgs (PySem.W.fnOf x x (C8.fnArgs st) (C8.fnBody st) (C8.fnScope st) .none kV doc pm an cdv ct) ⟨us, []⟩ = pure (ps.zip us)) : Dn K mg x st ps :=
  ⟨f, _, def_mk l c k m, C8.Fun.binds (def_mk l c k m).fn rfl h⟩
end
/-! ### x is True, x is False, of any value -/
def rIsT : R2 := fun x y H Q => ∃ b : Bool, y = .bl b ∧ Q (.bl (decide (x = .bl b))) H
def rNotT : R2 := fun x y H Q => ∃ b : Bool, y = .bl b ∧ Q (.bl (!decide (x = .bl b))) H
section
variable {X : Cx}
theorem rel_bl {x : V} {v : Value} {b : Bool} (rx : RelV x v) : PySem.plainIs v (.bool b) = true ∧ (v == .bool b) = decide (x = .bl b) ∨ ∃ n, v = .builtin n := by
  cases x with
  | non => cases (show v = Value.none from rx); exact .inl ⟨rfl, rfl⟩
  | bl c => cases (show v = Value.bool c from rx); exact .inl ⟨rfl, by cases b <;> cases c <;> rfl⟩
  | int i => obtain ⟨t, e⟩ := (show ∃ t, v = Value.int i t from rx); cases e; exact .inl ⟨rfl, rfl⟩
  | str i => obtain ⟨t, e⟩ := (show ∃ t, v = Value.str i t from rx); cases e; exact .inl ⟨rfl, rfl⟩
  | byt i => obtain ⟨t, e⟩ := (show ∃ t, v = Value.bytes i t from rx); cases e; exact .inl ⟨rfl, rfl⟩
  | flt i => obtain ⟨t, e⟩ := (show ∃ t, v = Value.float i t from rx); cases e; exact .inl ⟨rfl, rfl⟩
  | ref a => cases (show v = Value.ref a from rx); exact .inl ⟨rfl, rfl⟩
  | ty n => cases (show v = Value.type n from rx); exact .inl ⟨rfl, rfl⟩
theorem rel_bl' {x : V} {v : Value} {b : Bool} (rx : RelV x v) : PySem.plainIs v (.bool b) = true ∧ (v == .bool b) = decide (x = .bl b) := by
  rcases rel_bl (b := b) rx with h | ⟨n, rfl⟩
  · exact h
  · cases x <;> first | exact nomatch (rx : Value.builtin n = _) | (obtain ⟨t, e⟩ := rx; exact nomatch e)
theorem op_isTF : OpR X (compareOp .Is) rIsT := by
  intro pins s σ H x y v u Q I rx ry h
  obtain ⟨b, rfl, q⟩ := h
  cases (show u = Value.bool b from ry)
  obtain ⟨h1, h2⟩ := rel_bl' (b := b) rx
  exact wpAny_is_plain h1 ⟨.bl _, H, I, rfl, by rw [h2]; exact q⟩
theorem op_notTF : OpR X (compareOp .IsNot) rNotT := by
  intro pins s σ H x y v u Q I rx ry h
  obtain ⟨b, rfl, q⟩ := h
  cases (show u = Value.bool b from ry)
  obtain ⟨h1, h2⟩ := rel_bl' (b := b) rx
  exact wpAny_isNot_plain h1 ⟨.bl _, H, I, rfl, by rw [h2]; exact q⟩
end
/-! ### what evaluates to what: further -/
section
variable {K : PySem.W.Frag} {σ : L2.St} {H H' : Hp} {ta tb te tx : TE} {t u : TT} {x y z v : V} {r : R2}
theorem rv_isT {b : Bool} : RV rIsT x (.bl b) H (.bl (decide (x = .bl b))) := fun H1 _ _ q => ⟨b, rfl, q H1 (Ex.refl H1)⟩
theorem rv_notT {b : Bool} : RV rNotT x (.bl b) H (.bl (!decide (x = .bl b))) := fun H1 _ _ q => ⟨b, rfl, q H1 (Ex.refl H1)⟩
theorem rv_isN : RV (fun x y H Q => y = .non ∧ Q (.bl (decide (x = .non))) H) x .non H (.bl (decide (x = .non))) := fun H1 _ _ q => ⟨rfl, q H1 (Ex.refl H1)⟩
theorem rv_notN : RV (fun x y H Q => y = .non ∧ Q (.bl (!decide (x = .non))) H) x .non H (.bl (!decide (x = .non))) := fun H1 _ _ q => ⟨rfl, q H1 (Ex.refl H1)⟩
theorem ev_int {i : Int} (h : Ev ta σ H (.int i)) : Ev (tCB (fun xs H Q => (∃ i, xs = [.int i] ∧ Q (.int i) H) ∨ ∃ k, xs = [.bl k] ∧ Q (.int (if k then 1 else 0)) H) (tCons ta tNil)) σ H (.int i) :=
  fun H1 e Q q => h H1 e _ fun H2 e2 => .inl ⟨i, rfl, q H2 e2⟩
theorem ev_intB {b : Bool} (h : Ev ta σ H (.bl b)) : Ev (tCB (fun xs H Q => (∃ i, xs = [.int i] ∧ Q (.int i) H) ∨ ∃ k, xs = [.bl k] ∧ Q (.int (if k then 1 else 0)) H) (tCons ta tNil)) σ H (.int (if b then 1 else 0)) :=
  fun H1 e Q q => h H1 e _ fun H2 e2 => .inr ⟨b, rfl, q H2 e2⟩
theorem ev_abs {i : Int} (h : Ev ta σ H (.int i)) : Ev (tCB (fun xs H Q => ∃ i, xs = [.int i] ∧ Q (.int (if i < 0 then -i else i)) H) (tCons ta tNil)) σ H (.int (if i < 0 then -i else i)) :=
  fun H1 e Q q => h H1 e _ fun H2 e2 => ⟨i, rfl, q H2 e2⟩
theorem ev_min2 {i j : Int} (ha : Ev ta σ H (.int i)) (hb : Ev tb σ H (.int j)) : Ev (tCB (fun xs H Q => ∃ i j, xs = [.int i, .int j] ∧ Q (.int (if j < i then j else i)) H) (tCons ta (tCons tb tNil))) σ H (.int (if j < i then j else i)) := fun H1 e Q q =>
  ha H1 e _ fun H2 e2 => hb H2 (e.trans e2) _ fun H3 e3 => ⟨i, j, rfl, q H3 (e2.trans e3)⟩
theorem ev_lenS {s : Str} (h : Ev ta σ H (.str s)) (hz : s.length ≤ 100000) : Ev (tCB (fun xs H Q => ∃ z, xs = [.str z] ∧ z.length ≤ sizeLine ∧ Q (.int z.length) H) (tCons ta tNil)) σ H (.int s.length) :=
  fun H1 e Q q => h H1 e _ fun H2 e2 => ⟨s, rfl, sz_of hz, q H2 e2⟩
/-- isinstance(x, T) of a plain value -/
def tyOf : V → String
  | .non => "NoneType"
  | .bl _ => "bool"
  | .int _ => "int"
  | .str _ => "str"
  | .byt _ => "bytes"
  | .flt _ => "float"
  | _ => "?"
def isTy (x : V) (T : String) : Bool := ((kitB (tyOf x) T).getD false)
theorem ev_isi {T : String} {tn : String} {b : Bool} (ha : Ev ta σ H x) (ht : ∀ H1, TyX K H1 x (.type tn)) (hk : kitB tn T = some b) : Ev (tCB (rIsi K) (tCons ta (tCons (tC (.ty T)) tNil))) σ H (.bl b) :=
  fun H1 e Q q => ha H1 e _ fun H2 e2 => ⟨x, .ty T, .type tn, .type T, b, rfl, .ty T, ht H2, kit_ty hk, q H2 e2⟩
theorem tx_int (i : Int) (H1 : Hp) : TyX K H1 (.int i) (.type "int") := .base (.int i)
theorem tx_bl (i : Bool) (H1 : Hp) : TyX K H1 (.bl i) (.type "bool") := .base (.bl i)
theorem tx_str (i : Str) (H1 : Hp) : TyX K H1 (.str i) (.type "str") := .base (.str i)
theorem tx_non (H1 : Hp) : TyX K H1 .non (.type "NoneType") := .base .non
section
variable {D : Ends} {tz : TS}
/-- if c: x = e, an int: told by the value x has behind it -/
theorem q_ifI {b : Bool} {i : Nat} {p q : Int} (h : EvT t σ H b) (h1 : b = true → Ev te σ H (.int p)) (h0 : σ[i]? = some (some (.int q))) (k : ∀ H1, Ex H H1 → tz D (σ.set i (some (.int (if b = true then p else q)))) H1) : tSeq (tIfS t (tAsg te (gName i)) tNext) tz D σ H := by
  refine q_ifAsg h (fun hb => ?_) (fun hb => ?_) k
  · rw [if_pos hb]
    exact h1 hb
  · rw [hb]
    show σ.set i (some (V.int q)) = σ
    apply List.ext_getElem?
    intro j
    rw [List.getElem?_set]
    split
    · rename_i e
      subst e
      rw [h0]
      have := (List.getElem?_eq_some_iff.mp h0).1
      rw [if_pos this]
    · rfl
end
/-- a promise of one value, all else as it was -/
theorem spv {sp : Sp} {vs : List V} (h : ∀ H1, Ex H H1 → ∀ Q : VK, (∀ H2, Ex H1 H2 → Q z H2) → ∀ E : XK, sp vs H1 Q E) : SpV sp vs H z := h
end
local macro_rules | `(tactic| walk_at "side") => `(tactic| first
  | exact .inr ⟨by decide, by decide⟩
  | exact .inl ⟨by decide, by decide⟩
  | exact .inl ⟨by omega, by omega⟩
  | exact .inr ⟨by omega, by omega⟩
  | exact ⟨by decide, by decide⟩
  | exact ⟨by omega, by omega⟩
  | decide
  | (show (_ : Int) < _; omega)
  | omega)
local macro_rules | `(tactic| walk_at "rv") => `(tactic| first
  | exact rv_I0
  | ((refine' rv_I ?k1); (case k1 => walk_at "side"))
  | exact rv_isT
  | exact rv_notT
  | exact rv_isN
  | exact rv_notN
  | exact rv_eq rfl
  | exact rv_ne rfl)
local macro_rules | `(tactic| walk_at "sq") => `(tactic| first | assumption | exact ex_l (by assumption) (by assumption) | exact sq_of (by assumption))
/-- what a part gives, read off its form -/
local macro_rules | `(tactic| walk_at "ev") => `(tactic| first
  | exact ev_var rfl
  | exact ev_c
  | ((with_reducible refine' ev_op ?k1 ?k2 ?k3); (case k1 => walk_at "ev"); (case k2 => walk_at "ev"); (case k3 => walk_at "rv"))
  | ((with_reducible refine' ev_un ?k1 ?k2); (case k1 => walk_at "ev"); (case k2 => exact ru_neg))
  | ((with_reducible refine' ev_int ?k1); (case k1 => walk_at "ev"))
  | ((with_reducible refine' ev_abs ?k1); (case k1 => walk_at "ev"))
  | ((with_reducible refine' ev_andV ?k1 ?k2); (case k1 => walk_at "ev"); (case k2 => intro _; walk_at "ev"))
  | ((with_reducible refine' ev_orV ?k1 ?k2); (case k1 => walk_at "ev"); (case k2 => intro _; walk_at "ev"))
  | ((with_reducible refine' ev_notV ?k1); (case k1 => walk_at "ev"))
  | ((refine' ev_len ?k1 ?k2); (case k1 => walk_at "ev"); (case k2 => walk_at "sq")))
local macro_rules | `(tactic| walk_at "et") => `(tactic| first
  | ((with_reducible refine' et_or ?k1 ?k2); (case k1 => walk_at "et"); (case k2 => intro _; walk_at "et"))
  | ((with_reducible refine' et_and ?k1 ?k2); (case k1 => walk_at "et"); (case k2 => intro _; walk_at "et"))
  | ((with_reducible refine' et_not ?k1); (case k1 => walk_at "et"))
  | (refine' et_test ?k1; (case k1 => walk_at "ev"))
  | (refine' et_B ?k1; (case k1 => walk_at "ev")))

/-! ### tuples made, tuples read, data compared -/
def SpU (sp : Sp) (vs : List V) (H : Hp) (xs : List V) : Prop := ∀ H1, Ex H H1 → ∀ Q : VK, (∀ p H2, H1 p = none → Ex H1 H2 → H2 p = some (.tup xs) → Q (.ref p) H2) → ∀ E : XK, sp vs H1 Q E
section
variable {K : PySem.W.Frag} {σ : L2.St} {H H' : Hp} {ta tb te : TE} {x y z v : V}
theorem eu_call {sp : Sp} {dvs vs xs : List V} {E : XK} {ta : TA} (h : EvA ta σ H vs) (hs : SpU sp (vs ++ dvs) H xs) : EvU (tCall sp dvs E ta) σ H xs := fun H1 e Q q =>
  h H1 e _ fun H2 e2 => hs H2 (e.trans e2) Q (fun p H3 hp e3 h3 => q p H3 (fresh_back e2 hp) (e2.trans e3) h3) E
theorem ev_lenT {p : Addr} {xs : List V} (ha : Ev ta σ H (.ref p)) (h : SqT K H p xs) : Ev (tCB (fun xs H Q => ∃ p ys, xs = [.ref p] ∧ (SqL K H p ys ∨ SqT K H p ys) ∧ Q (.int ys.length) H) (tCons ta tNil)) σ H (.int (xs.length : Int)) := fun H1 e Q q =>
  ha H1 e _ fun H2 e2 => ⟨p, xs, rfl, Or.inr (ex_t (e.trans e2) h), q H2 e2⟩
theorem eu_divmod {i j : Int} (ha : Ev ta σ H (.int i)) (hb : Ev tb σ H (.int j)) (hc : CDiv i j) :
    EvU (tCB (fun xs H Q => ∃ i j, xs = [.int i, .int j] ∧ CDiv i j ∧ ∀ p, H p = none → Q (.ref p) (upd H p (.tup [.int (i / j), .int (i % j)]))) (tCons ta (tCons tb tNil))) σ H [.int (i / j), .int (i % j)] := fun H1 e Q q =>
  ha H1 e _ fun H2 e2 => hb H2 (e.trans e2) _ fun H3 e3 => ⟨i, j, rfl, hc, fun p hp => q p _ (fresh_back (e2.trans e3) hp) ((e2.trans e3).trans (Ex.new hp)) upd_same⟩
theorem dp_ints : ∀ ns : List Int, DpAll K H (ns.map V.int) (ns.map PyData.int)
  | [] => .nil
  | n :: r => .cons (.int n) (dp_ints r)
theorem eqv_ints : ∀ ns ms : List Int, PyData.eqv (.tuple (ns.map PyData.int)) (.tuple (ms.map PyData.int)) = decide (ns = ms)
  | [], [] => rfl
  | [], _ :: _ => rfl
  | _ :: _, [] => rfl
  | n :: r, m :: t => by
    have ih := eqv_ints r t
    show ((n == m) && PyData.eqv (.tuple (r.map PyData.int)) (.tuple (t.map PyData.int))) = _
    rw [ih, Bool.eq_iff_iff, Bool.and_eq_true, decide_eq_true_eq, decide_eq_true_eq, beq_iff_eq, List.cons.injEq]
theorem dp_tup {p : Addr} {ns : List Int} (h : SqT K H p (ns.map V.int)) : Dp K H (.ref p) (.tuple (ns.map PyData.int)) := .tup h (dp_ints ns)
def shI (n : Nat) : Bool := SeqAt.shaped (.tuple ((List.replicate n 0).map PyData.int))
theorem rv_neT {p q : Addr} {ns ms : List Int} (hp : SqT K H p (ns.map V.int)) (hq : SqT K H q (ms.map V.int)) (s1 : SeqAt.shaped (.tuple (ns.map PyData.int)) = true) (s2 : SeqAt.shaped (.tuple (ms.map PyData.int)) = true) : RV (rNeD K) (.ref p) (.ref q) H (.bl (!decide (ns = ms))) := fun H1 e Q k =>
  ⟨_, _, dp_tup (ex_t e hp), dp_tup (ex_t e hq), s1, s2, by rw [eqv_ints]; exact k H1 (Ex.refl H1)⟩
theorem tx_tup {a : Addr} {xs : List V} (h : H a = some (.tup xs)) : ∀ H1, Ex H H1 → TyX K H1 (.ref a) (.type "tuple") := fun H1 e => .base (.tup (e _ _ h))
theorem ev_isi' {T : String} {tn : String} {b : Bool} (ha : Ev ta σ H x) (ht : ∀ H1, Ex H H1 → TyX K H1 x (.type tn)) (hk : kitB tn T = some b) : Ev (tCB (rIsi K) (tCons ta (tCons (tC (.ty T)) tNil))) σ H (.bl b) :=
  fun H1 e Q q => ha H1 e _ fun H2 e2 => ⟨x, .ty T, .type tn, .type T, b, rfl, .ty T, ht H2 (e.trans e2), kit_ty hk, q H2 e2⟩
theorem ev_chain {r r' : R2} {tc : TE} {b c : Bool} (ha : Ev ta σ H x) (hb : Ev tb σ H y) (hr : RV r x y H (.bl b)) (hc : b = true → Ev tc σ H z) (hr' : b = true → RV r' y z H (.bl c)) : Ev (tChain r r' ta tb tc) σ H (.bl (b && c)) := fun H1 e Q q =>
  ha H1 e _ fun H2 e2 => hb H2 (e.trans e2) _ fun H3 e3 => hr H3 ((e.trans e2).trans e3) _ fun H4 e4 => ⟨b, rfl, by
    cases b with
    | true =>
      show tc σ H4 fun w' H5 => r' y w' H5 Q
      exact hc rfl H4 (((e.trans e2).trans e3).trans e4) _ fun H5 e5 => hr' rfl H5 ((((e.trans e2).trans e3).trans e4).trans e5) Q fun H6 e6 => q H6 ((((e2.trans e3).trans e4).trans e5).trans e6)
    | false =>
      show Q (.bl false) H4
      exact q H4 ((e2.trans e3).trans e4)⟩
/-- a, b = (..): a new tuple unpacked into names -/
theorem gt2 {p : Addr} {i j : Nat} (h : SqT K H p [x, y]) {Q : L2.St → Hp → Prop} (k : Q ((σ.set i (some x)).set j (some y)) H) : gTup K 2 (gCons (gName i) (gCons (gName j) gNil)) (.ref p) σ H Q :=
  ⟨p, [x, y], rfl, h, rfl, x, [y], rfl, y, [], rfl, rfl, k⟩
theorem gt3 {p : Addr} {i j l : Nat} (h : SqT K H p [x, y, z]) {Q : L2.St → Hp → Prop} (k : Q (((σ.set i (some x)).set j (some y)).set l (some z)) H) : gTup K 3 (gCons (gName i) (gCons (gName j) (gCons (gName l) gNil))) (.ref p) σ H Q :=
  ⟨p, [x, y, z], rfl, h, rfl, x, [y, z], rfl, y, [z], rfl, z, [], rfl, rfl, k⟩
end
theorem hu64 {A : Around} {k : Nat} (hr : Room k A) : A.units + 64 < cLine := by
  have := hr.un
  omega
section
variable {K : PySem.W.Frag} {σ : L2.St} {H : Hp} {te : TE} {D : Ends} {tz : TS} {g : TG} {xs : List V}
theorem q_asgG (h : EvU te σ H xs) (k : ∀ p H1, H p = none → Ex H H1 → H1 p = some (.tup xs) → g (.ref p) σ H1 (tz D)) : tSeq (tAsg te g) tz D σ H := h H (Ex.refl H) _ fun p H1 hp e h1 => k p H1 hp e h1
theorem q_asgV {v : V} (h : Ev te σ H v) (k : ∀ H1, Ex H H1 → g v σ H1 (tz D)) : tSeq (tAsg te g) tz D σ H := h H (Ex.refl H) _ fun H1 e => k H1 e
end
/-! ### plain values and their types -/
inductive Pl : V → Prop where
  | non : Pl .non
  | bl (b : Bool) : Pl (.bl b)
  | int (i : Int) : Pl (.int i)
  | str (s : Str) : Pl (.str s)
def tyN : V → String
  | .bl _ => "bool"
  | .int _ => "int"
  | .str _ => "str"
  | _ => "NoneType"
def isInt : V → Bool
  | .int _ => true
  | _ => false
theorem tx_pl {K : PySem.W.Frag} {x : V} (h : Pl x) (H1 : Hp) : TyX K H1 x (.type (tyN x)) := by
  cases h with
  | non => exact .base .non
  | bl b => exact .base (.bl b)
  | int i => exact .base (.int i)
  | str s => exact .base (.str s)
theorem ev_isiP {K : PySem.W.Frag} {σ : L2.St} {H : Hp} {ta : TE} {x : V} {T : String} {b : Bool} (ha : Ev ta σ H x) (hx : Pl x) (hk : kitB (tyN x) T = some b) : Ev (tCB (rIsi K) (tCons ta (tCons (tC (.ty T)) tNil))) σ H (.bl b) :=
  ev_isi ha (tx_pl hx) hk
/-- isinstance(x, int) and not isinstance(x, bool) -/
theorem ev_isInt {K : PySem.W.Frag} {σ : L2.St} {H : Hp} {ta tb : TE} {x : V} (ha : Ev ta σ H x) (hb : Ev tb σ H x) (hx : Pl x) :
    Ev (tAndV (tCB (rIsi K) (tCons ta (tCons (tC (.ty "int")) tNil))) (tNotV (tCB (rIsi K) (tCons tb (tCons (tC (.ty "bool")) tNil))))) σ H (.bl (isInt x)) := by
  cases hx with
  | non => exact ev_is (ev_andV (ev_isiP (b := false) ha .non (by decide +kernel)) fun z => nomatch z) (show V.bl (false && true) = _ from rfl)
  | bl b => exact ev_is (ev_andV (ev_isiP (b := true) ha (.bl b) (by show kitB "bool" "int" = some true; decide +kernel)) fun _ => ev_notV (ev_isiP (b := true) hb (.bl b) (by show kitB "bool" "bool" = some true; decide +kernel))) rfl
  | int i => exact ev_is (ev_andV (ev_isiP (b := true) ha (.int i) (by show kitB "int" "int" = some true; decide +kernel)) fun _ => ev_notV (ev_isiP (b := false) hb (.int i) (by show kitB "int" "bool" = some false; decide +kernel))) rfl
  | str s => exact ev_is (ev_andV (ev_isiP (b := false) ha (.str s) (by show kitB "str" "int" = some false; decide +kernel)) fun z => nomatch z) (show V.bl (false && true) = _ from rfl)

/-! ### the order of tuples that need not be alike behind the first difference -/
section
open PySem.SeqAt PySem.MeetsSeq PySem.MeetsSeq2 PySem.MeetsSeq3
open PySem.AutoSeq1 (wpAny_loadPart')
/-- pairs walked from the left: the first that differ decide; z where none do -/
inductive Lx (A : Around) (s : Shared) (z : Bool) : List (Value × Value) → Bool → Prop
  | nil : Lx A s z [] z
  | eq {y x : Value} {ps : List (Value × Value)} {c : Bool} : EqAt A s y x true → Lx A s z ps c → Lx A s z ((y, x) :: ps) c
  | lt {y x : Value} {ps : List (Value × Value)} {c : Bool} : EqAt A s y x false → Ob.RcOp .Lt A s y x c → Lx A s z ((y, x) :: ps) c
theorem lt_meets (l b : Addr) (us vs : Array Value) (n m : Nat) (dl db : Option Addr) (sl sb : Array (Option Value)) :
    Meets (Builtin.«tuple.__lt__» ⟨[.ref l, .ref b], []⟩)
      (fun A R s => s.heap.get? l = some { cls := .type "tuple", dict := dl, data := .seq us n, slots := sl } ∧ s.heap.get? b = some { cls := .type "tuple", dict := db, data := .seq vs m, slots := sb } ∧
        ∃ c, Lx A.in1 s (decide (us.size < vs.size)) (us.toList.zip vs.toList) c ∧ R (.ok (.ret (.bool c))) s) := by
  refine .of_wp fun prog w A R s h => ?_
  obtain ⟨hp, g, d, tk, os⟩ := s
  obtain ⟨hl, hb, c, hx, h⟩ := h
  have f2 := AutoSeq1.sub_tuple_tuple
  wp_walk using wpAny_loadPart' hl, wpAny_loadPart' hb, wpAny_forIn_list _ (fun ps b s' => b.1 = none ∧ s' = ⟨hp, g, d, tk, os⟩ ∧ ∃ c, Lx A.in1 ⟨hp, g, d, tk, os⟩ (decide (us.size < vs.size)) ps c ∧ R (.ok (.ret (.bool c))) ⟨hp, g, d, tk, os⟩) _
  case turn =>
    rintro ⟨y, x⟩ ps b s' ⟨hb', rfl, c, hz, hR⟩
    cases hz with
    | eq he ht =>
      refine wpAny_bind (he prog w _ _ ?_)
      wp_walk
      exact ⟨rfl, rfl, c, ht, hR⟩
    | lt he hr =>
      refine wpAny_bind (he prog w _ _ ?_)
      have hri := hr prog w
      wp_walk using hri
      exact ⟨_, rfl, hR⟩
  case fin =>
    rintro ⟨b1, b2⟩ s' ⟨hb', rfl, c, hz, hR⟩
    simp only at hb'
    subst hb'
    cases hz
    wp_walk
    exact ⟨_, rfl, by simpa [Builtin.Tuple.tupleCompareSizes] using hR⟩
  case h => exact ⟨rfl, rfl, c, hx, h⟩
theorem lt_tuples {A : Around} {s : Shared} {l b : Addr} {us vs : Array Value} {c : Bool} (hl : s.heap.IsTuple l us) (hb : s.heap.IsTuple b vs) (hu : A.units < cLine) (hx : Lx A.in1 s (decide (us.size < vs.size)) (us.toList.zip vs.toList) c) :
    Ob.RcOp .Lt A s (.ref l) (.ref b) c := by
  intro prog w E Q h
  obtain ⟨⟨k1, dl, da, sl⟩, ho, hc, n, hd⟩ := hl
  obtain ⟨⟨k2, db, da2, sb⟩, ho2, hc2, m, hd2⟩ := hb
  simp only at hc hd hc2 hd2
  subst hc hd hc2 hd2
  exact richCompare_meets_room (op := .Lt) ⟨_, ho, rfl⟩ ⟨_, ho2, rfl⟩ F.slot_tuple_lt F.entry_tuple_lt (F.args_tuple_lt_2 _ _) (lt_meets l b us vs n m dl db sl sb) ⟨ho, ho2, c, hx, ⟨(fun z => nomatch z), h⟩⟩ hu
end
mutual
/-- less, of data -/
def ltD : PyData → PyData → Bool
  | .int a, .int b => decide (a < b)
  | .str x, .str y => decide (x.cps.toList < y.cps.toList)
  | .tuple xs, .tuple ys => ltDs xs ys
  | _, _ => false
def ltDs : List PyData → List PyData → Bool
  | [], [] => false
  | [], _ :: _ => true
  | _ :: _, [] => false
  | x :: xs, y :: ys => if PyData.eqv x y then ltDs xs ys else ltD x y
end
mutual
/-- may be compared by less -/
def ordD : PyData → PyData → Bool
  | .int _, .int _ => true
  | .str _, .str _ => true
  | .tuple xs, .tuple ys => ordDs xs ys
  | _, _ => false
def ordDs : List PyData → List PyData → Bool
  | [], _ => true
  | _ :: _, [] => true
  | x :: xs, y :: ys => if PyData.eqv x y then ordDs xs ys else ordD x y
end
theorem reads_len {h : Heap} : ∀ {ds : List PyData} {us : List Value} {as : List Addr}, ReadsAll h us ds as → us.length = ds.length
  | [], _, _, r => by cases r; rfl
  | _ :: ds, _, _, r => by
    cases r with
    | cons r1 r2 => exact congrArg (· + 1) (reads_len r2)
theorem lt_list {n : Nat} (IH : ∀ (d e : PyData) (A : Around) (s : Shared) (u v : Value) (as bs : List Addr), d.depth ≤ n → Reads s.heap u d as → Reads s.heap v e bs → d.canLay0 = true → e.canLay0 = true → ordD d e = true →
    A.units + d.depth < cLine → Ob.RcOp .Lt A s u v (ltD d e)) (A : Around) (s : Shared) : ∀ (xs ys : List PyData) (us vs : List Value) (as bs : List Addr), PyData.depthAll xs ≤ n → ReadsAll s.heap us xs as → ReadsAll s.heap vs ys bs →
    PyData.canLayAll0 xs = true → PyData.canLayAll0 ys = true → ordDs xs ys = true → A.units + PyData.depthAll xs < cLine → Lx A s (decide (xs.length < ys.length)) (us.zip vs) (ltDs xs ys) := by
  intro xs
  induction xs with
  | nil =>
    intro ys us vs as bs hn r1 r2 c1 c2 ho hu
    cases r1
    cases ys with
    | nil => exact .nil
    | cons y ys =>
      rw [show decide (([] : List PyData).length < (y :: ys).length) = true from decide_eq_true (Nat.zero_lt_succ _)]
      show Lx A s true [] true
      exact .nil
  | cons x xs ih =>
    intro ys us vs as bs hn r1 r2 c1 c2 ho hu
    cases ys with
    | nil =>
      cases r2
      rw [show decide ((x :: xs).length < ([] : List PyData).length) = false from decide_eq_false (Nat.not_lt_zero _), List.zip_nil_right]
      exact .nil
    | cons y ys =>
      have a1 : x.canLay0 = true ∧ PyData.canLayAll0 xs = true := by simpa [PyData.canLayAll0] using c1
      have a2 : y.canLay0 = true ∧ PyData.canLayAll0 ys = true := by simpa [PyData.canLayAll0] using c2
      have hd : A.units + max x.depth (PyData.depthAll xs) < cLine := hu
      have hn' : max x.depth (PyData.depthAll xs) ≤ n := hn
      rw [show decide ((x :: xs).length < (y :: ys).length) = decide (xs.length < ys.length) by simp]
      cases r1 with
      | cons p1 q1 =>
        cases r2 with
        | cons p2 q2 =>
          have he := PySem.SeqAt.eqAt_reads x y A s _ _ _ _ p1 p2 a1.1 a2.1 (by omega)
          by_cases c : PyData.eqv x y = true
          · have o : ordDs xs ys = true := by rw [ordDs, if_pos c] at ho; exact ho
            rw [show ltDs (x :: xs) (y :: ys) = ltDs xs ys by rw [ltDs, if_pos c]]
            rw [c] at he
            exact .eq he (ih ys _ _ _ _ (by omega) q1 q2 a1.2 a2.2 o (by omega))
          · have o : ordD x y = true := by rw [ordDs, if_neg c] at ho; exact ho
            rw [show ltDs (x :: xs) (y :: ys) = ltD x y by rw [ltDs, if_neg c]]
            rw [Bool.not_eq_true] at c
            rw [c] at he
            exact .lt he (IH x y A s _ _ _ _ (by omega) p1 p2 a1.1 a2.1 o (by omega))
theorem lt_reads : ∀ (n : Nat) (d e : PyData) (A : Around) (s : Shared) (u v : Value) (as bs : List Addr), d.depth ≤ n → Reads s.heap u d as → Reads s.heap v e bs → d.canLay0 = true → e.canLay0 = true → ordD d e = true →
    A.units + d.depth < cLine → Ob.RcOp .Lt A s u v (ltD d e) := by
  intro n
  induction n with
  | zero =>
    intro d e A s u v as bs hn r1 r2 c1 c2 ho hu
    cases r1 with
    | int a t =>
      cases r2 with
      | int b t' => rw [ltD]; exact Ob.RcOp.lt_int _ _ _ _
      | _ => simp [ordD] at ho
    | str a t =>
      cases r2 with
      | str b t' => rw [ltD]; exact fun prog w E Q h => lt_str h
      | _ => simp [ordD] at ho
    | tuple => simp [PyData.depth] at hn
    | _ => simp [ordD] at ho
  | succ n ih =>
    intro d e A s u v as bs hn r1 r2 c1 c2 ho hu
    cases r1 with
    | int a t =>
      cases r2 with
      | int b t' => rw [ltD]; exact Ob.RcOp.lt_int _ _ _ _
      | _ => simp [ordD] at ho
    | str a t =>
      cases r2 with
      | str b t' => rw [ltD]; exact fun prog w E Q h => lt_str h
      | _ => simp [ordD] at ho
    | tuple h1 h2 h3 h4 =>
      cases r2 with
      | tuple k1 k2 k3 k4 =>
        rename_i xs _ _ _ _ _ ys
        simp only [PyData.depth] at hn hu
        have l1 := reads_len h4
        have l2 := reads_len k4
        rw [ltD]
        refine lt_tuples ⟨_, h1, h2, _, h3⟩ ⟨_, k1, k2, _, k3⟩ (by omega) ?_
        rw [← Array.length_toList, ← Array.length_toList, l1, l2]
        exact lt_list ih A.in1 s _ _ _ _ _ _ (by omega) h4 k4 (by simpa [PyData.canLay0] using c1) (by simpa [PyData.canLay0] using c2) (by simpa [ordD] using ho) (by show A.units + 1 + _ < _; omega)
      | _ => simp [ordD] at ho
    | _ => simp [ordD] at ho
def rLtD (K : PySem.W.Frag) : R2 := fun x y H Q => ∃ d e, Dp K H x d ∧ Dp K H y e ∧ d.canLay0 = true ∧ e.canLay0 = true ∧ ordD d e = true ∧ d.depth ≤ 60 ∧ Q (.bl (ltD d e)) H
theorem op_ltD {X : Cx} (hu : X.A.units + 64 < cLine) : OpR X (compareOp .Lt) (rLtD X.K) := by
  intro pins s σ H x y v u Q I rx ry h
  obtain ⟨d, e, hd, he, c1, c2, o, dp, q⟩ := h
  obtain ⟨as, r1⟩ := Dp.reads I d x v hd rx
  obtain ⟨bs, r2⟩ := Dp.reads I e y u he ry
  exact lt_reads _ d e X.A s v u as bs (Nat.le_refl _) r1 r2 c1 c2 o (by omega) X.prog X.w _ _ ⟨.bl _, H, I, rfl, q⟩

/-! ### <= of two pairs (an int and an int or a text) -/
section
open PySem.SeqAt PySem.MeetsSeq PySem.MeetsSeq2 PySem.MeetsSeq3
open PySem.AutoSeq1 (wpAny_loadPart')
/-- the same of <=: z where none differ -/
inductive Lxe (A : Around) (s : Shared) (z : Bool) : List (Value × Value) → Bool → Prop
  | nil : Lxe A s z [] z
  | eq {y x : Value} {ps : List (Value × Value)} {c : Bool} : EqAt A s y x true → Lxe A s z ps c → Lxe A s z ((y, x) :: ps) c
  | le {y x : Value} {ps : List (Value × Value)} {c : Bool} : EqAt A s y x false → Ob.RcOp .LtE A s y x c → Lxe A s z ((y, x) :: ps) c
theorem le_meets (l b : Addr) (us vs : Array Value) (n m : Nat) (dl db : Option Addr) (sl sb : Array (Option Value)) :
    Meets (Builtin.«tuple.__le__» ⟨[.ref l, .ref b], []⟩)
      (fun A R s => s.heap.get? l = some { cls := .type "tuple", dict := dl, data := .seq us n, slots := sl } ∧ s.heap.get? b = some { cls := .type "tuple", dict := db, data := .seq vs m, slots := sb } ∧
        ∃ c, Lxe A.in1 s (decide (us.size ≤ vs.size)) (us.toList.zip vs.toList) c ∧ R (.ok (.ret (.bool c))) s) := by
  refine .of_wp fun prog w A R s h => ?_
  obtain ⟨hp, g, d, tk, os⟩ := s
  obtain ⟨hl, hb, c, hx, h⟩ := h
  have f2 := AutoSeq1.sub_tuple_tuple
  wp_walk using wpAny_loadPart' hl, wpAny_loadPart' hb, wpAny_forIn_list _ (fun ps b s' => b.1 = none ∧ s' = ⟨hp, g, d, tk, os⟩ ∧ ∃ c, Lxe A.in1 ⟨hp, g, d, tk, os⟩ (decide (us.size ≤ vs.size)) ps c ∧ R (.ok (.ret (.bool c))) ⟨hp, g, d, tk, os⟩) _
  case turn =>
    rintro ⟨y, x⟩ ps b s' ⟨hb', rfl, c, hz, hR⟩
    cases hz with
    | eq he ht =>
      refine wpAny_bind (he prog w _ _ ?_)
      wp_walk
      exact ⟨rfl, rfl, c, ht, hR⟩
    | le he hr =>
      refine wpAny_bind (he prog w _ _ ?_)
      have hri := hr prog w
      wp_walk using hri
      exact ⟨_, rfl, hR⟩
  case fin =>
    rintro ⟨b1, b2⟩ s' ⟨hb', rfl, c, hz, hR⟩
    simp only at hb'
    subst hb'
    cases hz
    wp_walk
    exact ⟨_, rfl, by simpa [Builtin.Tuple.tupleCompareSizes] using hR⟩
  case h => exact ⟨rfl, rfl, c, hx, h⟩
theorem le_tuples {A : Around} {s : Shared} {l b : Addr} {us vs : Array Value} {c : Bool} (hl : s.heap.IsTuple l us) (hb : s.heap.IsTuple b vs) (hu : A.units < cLine) (hx : Lxe A.in1 s (decide (us.size ≤ vs.size)) (us.toList.zip vs.toList) c) :
    Ob.RcOp .LtE A s (.ref l) (.ref b) c := by
  intro prog w E Q h
  obtain ⟨⟨k1, dl, da, sl⟩, ho, hc, n, hd⟩ := hl
  obtain ⟨⟨k2, db, da2, sb⟩, ho2, hc2, m, hd2⟩ := hb
  simp only at hc hd hc2 hd2
  subst hc hd hc2 hd2
  exact richCompare_meets_room (op := .LtE) ⟨_, ho, rfl⟩ ⟨_, ho2, rfl⟩ F.slot_tuple_le F.entry_tuple_le (F.args_tuple_le_2 _ _) (le_meets l b us vs n m dl db sl sb) ⟨ho, ho2, c, hx, ⟨(fun z => nomatch z), h⟩⟩ hu
end
/-- of two plain items of one kind -/
def leI : V → V → Bool
  | .int a, .int b => decide (a ≤ b)
  | .str x, .str y => !decide (y.cps.toList < x.cps.toList)
  | _, _ => false
def okI : V → V → Bool
  | .int _, .int _ => true
  | .str _, .str _ => true
  | _, _ => false
def rLe2 (K : PySem.W.Frag) : R2 := fun x y H Q => ∃ (a b : Addr) (i j : Int) (p q : V), x = .ref a ∧ y = .ref b ∧ SqT K H a [.int i, p] ∧ SqT K H b [.int j, q] ∧ flatV p = true ∧ flatV q = true ∧ (i = j → eqV p q = false → okI p q = true) ∧
  Q (.bl (if i = j then (if eqV p q = true then true else leI p q) else decide (i ≤ j))) H
theorem op_le2 {X : Cx} (hu : X.A.units + 64 < cLine) : OpR X (compareOp .LtE) (rLe2 X.K) := by
  intro pins s σ H x y v u Q I rx ry h
  obtain ⟨a, b, i, j, p, q, rfl, rfl, ha, hb, fp, fq, ho, k⟩ := h
  cases rx
  cases ry
  obtain ⟨us, r1, t1, _⟩ := I.tuple ha
  obtain ⟨vs, r2, t2, _⟩ := I.tuple hb
  cases r1 with
  | cons q1 w1 =>
    cases w1 with
    | cons q2 w2 =>
      cases w2
      cases r2 with
      | cons z1 y1 =>
        cases y1 with
        | cons z2 y2 =>
          cases y2
          obtain ⟨t, rfl⟩ := q1
          obtain ⟨t', rfl⟩ := z1
          refine le_tuples t1 t2 (by omega) (c := if i = j then (if eqV p q = true then true else leI p q) else decide (i ≤ j)) ?_ X.prog X.w _ _ ⟨.bl _, H, I, rfl, k⟩
          show Lxe X.A.in1 s true [_, _] _
          have e1 := SeqAt.EqAt.int_int (A := X.A.in1) (s := s) i t j t'
          by_cases e : i = j
          · rw [if_pos e]
            rw [show (i == j) = true from beq_iff_eq.mpr e] at e1
            refine .eq e1 ?_
            have e2 := eqAt_V (A := X.A.in1) (s := s) q2 z2 fp fq
            cases c : eqV p q with
            | true =>
              rw [c] at e2
              rw [if_pos rfl]
              exact .eq e2 .nil
            | false =>
              rw [c] at e2
              rw [if_neg (by decide)]
              refine .le e2 ?_
              have o := ho e c
              cases p <;> cases q <;> first | (simp [okI] at o; done) | skip
              · obtain ⟨_, rfl⟩ := q2
                obtain ⟨_, rfl⟩ := z2
                exact Ob.RcOp.le_int _ _ _ _
              · obtain ⟨_, rfl⟩ := q2
                obtain ⟨_, rfl⟩ := z2
                exact fun prog w E Q h => PySem.P.le_str h
          · rw [if_neg e]
            rw [show (i == j) = false from beq_eq_false_iff_ne.mpr e] at e1
            exact .le e1 (Ob.RcOp.le_int _ _ _ _)

/-! ### parts that give data -/
section
variable {K : PySem.W.Frag}
mutual
theorem ex_dp {H H' : Hp} (e : Ex H H') : ∀ {v : V} {d : PyData}, Dp K H v d → Dp K H' v d
  | _, _, .non => .non
  | _, _, .bl b => .bl b
  | _, _, .int i => .int i
  | _, _, .str x => .str x
  | _, _, .lst h a => .lst (ex_l e h) (ex_dps e a)
  | _, _, .tup h a => .tup (ex_t e h) (ex_dps e a)
theorem ex_dps {H H' : Hp} (e : Ex H H') : ∀ {vs : List V} {ds : List PyData}, DpAll K H vs ds → DpAll K H' vs ds
  | _, _, .nil => .nil
  | _, _, .cons h t => .cons (ex_dp e h) (ex_dps e t)
end
def EvD (K : PySem.W.Frag) (te : TE) (σ : L2.St) (H : Hp) (d : PyData) : Prop := ∀ H1, Ex H H1 → ∀ Q : VK, (∀ v H2, Ex H1 H2 → Dp K H2 v d → Q v H2) → te σ H1 Q
/-- a new list, a new tuple of data -/
def EvLD (K : PySem.W.Frag) (te : TE) (σ : L2.St) (H : Hp) (ds : List PyData) : Prop := ∀ H1, Ex H H1 → ∀ Q : VK, (∀ p H2 ys, H1 p = none → Ex H1 H2 → H2 p = some (.lst ys) → DpAll K H2 ys ds → Q (.ref p) H2) → te σ H1 Q
def EvUD (K : PySem.W.Frag) (te : TE) (σ : L2.St) (H : Hp) (ds : List PyData) : Prop := ∀ H1, Ex H H1 → ∀ Q : VK, (∀ p H2 ys, H1 p = none → Ex H1 H2 → H2 p = some (.tup ys) → DpAll K H2 ys ds → Q (.ref p) H2) → te σ H1 Q
def EvAD (K : PySem.W.Frag) (ta : TA) (σ : L2.St) (H : Hp) (ds : List PyData) : Prop := ∀ H1, Ex H H1 → ∀ Q : List V → Hp → Prop, (∀ vs H2, Ex H1 H2 → DpAll K H2 vs ds → Q vs H2) → ta σ H1 Q
variable {σ : L2.St} {H H' : Hp} {ta tb te : TE} {tr : TA} {x y z v : V} {d e : PyData} {ds es : List PyData}
theorem ed_val (h : Ev te σ H v) (hd : Dp K H v d) : EvD K te σ H d := fun H1 e Q q => h H1 e _ fun H2 e2 => q v H2 e2 (ex_dp (e.trans e2) hd)
theorem ed_tupU (h : EvUD K te σ H ds) : EvD K te σ H (.tuple ds) := fun H1 e Q q => h H1 e _ fun p H2 ys _ e2 h2 hd => q _ H2 e2 (.tup (st_of h2) hd)
theorem ed_lst (h : EvLD K te σ H ds) : EvD K te σ H (.list ds) := fun H1 e Q q => h H1 e _ fun p H2 ys _ e2 h2 hd => q _ H2 e2 (.lst (sq_of h2) hd)
theorem ad_nil : EvAD K tNil σ H [] := fun H1 _ _ q => q [] H1 (Ex.refl H1) .nil
theorem ad_cons (h : EvD K te σ H d) (hr : EvAD K tr σ H ds) : EvAD K (tCons te tr) σ H (d :: ds) := fun H1 e Q q =>
  h H1 e _ fun v H2 e2 hd => hr H2 (e.trans e2) _ fun vs H3 e3 hds => q (v :: vs) H3 (e2.trans e3) (.cons (ex_dp e3 hd) hds)
theorem dps_len : ∀ {vs : List V} {ds : List PyData} {H : Hp}, DpAll K H vs ds → vs.length = ds.length
  | _, _, _, .nil => rfl
  | _, _, _, .cons _ t => congrArg (· + 1) (dps_len t)
theorem ud_tup (h : EvAD K tr σ H ds) (hl : ds.length ≤ 100000) : EvUD K (tTup tr) σ H ds := fun H1 e Q q =>
  h H1 e _ fun vs H2 e2 hd => ⟨sz_of (by rw [dps_len hd]; exact hl), fun p hp => q p _ vs (fresh_back e2 hp) (e2.trans (Ex.new hp)) upd_same (ex_dps (Ex.new hp) hd)⟩
theorem ld_lst (h : EvAD K tr σ H ds) (hl : ds.length ≤ 100000) : EvLD K (tLst tr) σ H ds := fun H1 e Q q =>
  h H1 e _ fun vs H2 e2 hd => ⟨sz_of (by rw [dps_len hd]; exact hl), fun p hp => q p _ vs (fresh_back e2 hp) (e2.trans (Ex.new hp)) upd_same (ex_dps (Ex.new hp) hd)⟩
def SpD (K : PySem.W.Frag) (sp : Sp) (vs : List V) (H : Hp) (d : PyData) : Prop := ∀ H1, Ex H H1 → ∀ Q : VK, (∀ v H2, Ex H1 H2 → Dp K H2 v d → Q v H2) → ∀ E : XK, sp vs H1 Q E
def SpUD (K : PySem.W.Frag) (sp : Sp) (vs : List V) (H : Hp) (ds : List PyData) : Prop := ∀ H1, Ex H H1 → ∀ Q : VK, (∀ p H2 ys, H1 p = none → Ex H1 H2 → H2 p = some (.tup ys) → DpAll K H2 ys ds → Q (.ref p) H2) → ∀ E : XK, sp vs H1 Q E
theorem ud_call {sp : Sp} {dvs vs : List V} {E : XK} {ta : TA} (h : EvA ta σ H vs) (hs : SpUD K sp (vs ++ dvs) H ds) : EvUD K (tCall sp dvs E ta) σ H ds := fun H1 e Q q =>
  h H1 e _ fun H2 e2 => hs H2 (e.trans e2) Q (fun p H3 ys hp e3 h3 hd => q p H3 ys (fresh_back e2 hp) (e2.trans e3) h3 hd) E
/-- == , != , < of data -/
theorem ev_eqD (ha : EvD K ta σ H d) (hb : EvD K tb σ H e) (s1 : SeqAt.shaped d = true) (s2 : SeqAt.shaped e = true) : Ev (tOp (rEqD K) ta tb) σ H (.bl (PyData.eqv d e)) := fun H1 ex Q q =>
  ha H1 ex _ fun x H2 e2 h2 => hb H2 (ex.trans e2) _ fun y H3 e3 h3 => ⟨d, e, ex_dp e3 h2, h3, s1, s2, q H3 (e2.trans e3)⟩
theorem ev_neD (ha : EvD K ta σ H d) (hb : EvD K tb σ H e) (s1 : SeqAt.shaped d = true) (s2 : SeqAt.shaped e = true) : Ev (tOp (rNeD K) ta tb) σ H (.bl (!PyData.eqv d e)) := fun H1 ex Q q =>
  ha H1 ex _ fun x H2 e2 h2 => hb H2 (ex.trans e2) _ fun y H3 e3 h3 => ⟨d, e, ex_dp e3 h2, h3, s1, s2, q H3 (e2.trans e3)⟩
theorem ev_ltD (ha : EvD K ta σ H d) (hb : EvD K tb σ H e) (s1 : SeqAt.shaped d = true) (s2 : SeqAt.shaped e = true) (o : ordD d e = true) (dp : d.depth ≤ 60) : Ev (tOp (rLtD K) ta tb) σ H (.bl (ltD d e)) := fun H1 ex Q q =>
  ha H1 ex _ fun x H2 e2 h2 => hb H2 (ex.trans e2) _ fun y H3 e3 h3 => ⟨d, e, ex_dp e3 h2, h3, SeqAt.canLay_of_shaped s1, SeqAt.canLay_of_shaped s2, o, dp, q H3 (e2.trans e3)⟩
/-- tuple(a new list) -/
theorem ud_tuple {tl : TE} (h : EvLD K tl σ H ds) : EvUD K (tCB (fun xs H Q => ∃ p ys, xs = [.ref p] ∧ ((SqL K H p ys ∧ ∀ l, H l = none → Q (.ref l) (upd H l (.tup ys))) ∨ (SqT K H p ys ∧ Q (.ref p) H))) (tCons tl tNil)) σ H ds := fun H1 e Q q =>
  h H1 e _ fun p H2 ys _ e2 h2 hd => ⟨p, ys, rfl, .inl ⟨sq_of h2, fun l hl => q l _ ys (fresh_back e2 hl) (e2.trans (Ex.new hl)) upd_same (ex_dps (Ex.new hl) hd)⟩⟩
mutual
/-- no list within -/
def noL : PyData → Bool
  | .list _ => false
  | .tuple xs => noLs xs
  | .dict _ => false
  | .none | .bool _ | .int _ | .str _ => true
def noLs : List PyData → Bool
  | [] => true
  | x :: xs => noL x && noLs xs
end
mutual
theorem dp_upd {H : Hp} {D : Addr} {ys zs : List V} (hD : H D = some (.lst ys)) : ∀ {v : V} {d : PyData}, noL d = true → Dp K H v d → Dp K (upd H D (.lst zs)) v d
  | _, _, _, .non => .non
  | _, _, _, .bl b => .bl b
  | _, _, _, .int i => .int i
  | _, _, _, .str x => .str x
  | _, _, n, .lst h a => by simp [noL] at n
  | _, _, n, .tup h a => by
    refine .tup ?_ (dps_upd hD (by simpa [noL] using n) a)
    rcases h with (h | ⟨o, h⟩) | h
    · exact .inl (.inl (by rw [upd_ne (by intro z; rw [z, hD] at h; cases h)]; exact h))
    · exact .inl (.inr ⟨o, by rw [upd_ne (by intro z; rw [z, hD] at h; cases h)]; exact h⟩)
    · exact .inr h
theorem dps_upd {H : Hp} {D : Addr} {ys zs : List V} (hD : H D = some (.lst ys)) : ∀ {vs : List V} {ds : List PyData}, noLs ds = true → DpAll K H vs ds → DpAll K (upd H D (.lst zs)) vs ds
  | _, _, _, .nil => .nil
  | _, _, n, .cons h t => by
    have n' : (noL _ && noLs _) = true := n
    rw [Bool.and_eq_true] at n'
    exact .cons (dp_upd hD n'.1 h) (dps_upd hD n'.2 t)
end
theorem noLs_map {f : Nat → PyData} (h : ∀ i, noL (f i) = true) : ∀ l : List Nat, noLs (l.map f) = true
  | [] => rfl
  | i :: l => by
    show (noL (f i) && noLs (l.map f)) = true
    rw [h i, noLs_map h l]
    rfl
/-- [f(x) for x in xs] -/
theorem dps_snoc : ∀ {vs : List V} {ds : List PyData} {H : Hp} {v : V} {d : PyData}, DpAll K H vs ds → Dp K H v d → DpAll K H (vs ++ [v]) (ds ++ [d])
  | _, _, _, _, _, .nil, h => .cons h .nil
  | _, _, _, _, _, .cons a t, h => .cons a (dps_snoc t h)
theorem ld_lcL {a : Addr} {xs : List V} {tl : TE} {j : Nat} {vs : List Nat} (f : Nat → PyData) (h : Ev tl σ H (.ref a)) (hx : SqL K H a xs) (hz : xs.length ≤ 40000) (hn : ∀ i, noL (f i) = true) (hw : ∀ x, wipe ((wipe σ vs).set j (some x)) vs = wipe σ vs)
    (he : ∀ (i : Nat) (x : V) H1, Ex H H1 → xs[i]? = some x → EvD K te ((wipe σ vs).set j (some x)) H1 (f i)) :
    EvLD K (tLc (iList K tl) (gName j) tYes te vs) σ H ((List.range xs.length).map f) := fun H0 e0 Q q => h H0 e0 _ fun H1 e1 => ⟨a, rfl, ⟨xs, ex_l (e0.trans e1) hx⟩, fun D hD =>
  lc_list (xs := xs) (fun i H' => H1 D = none ∧ Ex H1 H' ∧ ∃ ys, H' D = some (.lst ys) ∧ DpAll K H' ys ((List.range i).map f)) ⟨hD, Ex.new hD, [], upd_same, .nil⟩ (fun i H' _ p => ex_l ((e0.trans e1).trans p.2.1) hx)
    (fun i x H' hi p => by
      obtain ⟨p1, p2, ys, p3, p4⟩ := p
      refine ⟨hw x, ?_⟩
      show te ((wipe σ vs).set j (some x)) H' fun y H4 => ∃ acc, H4 D = some (.lst acc) ∧ acc.length < sizeLine ∧ _
      refine he i x H' ((e0.trans e1).trans p2) hi H' (Ex.refl H') _ fun y H4 e4 hy => ⟨ys, e4 _ _ p3, sz_lt ?_, p1, Ex.mut (p2.trans e4) p1, ys ++ [y], upd_same, ?_⟩
      · have := dps_len p4
        rw [List.length_map, List.length_range] at this
        have := (List.getElem?_eq_some_iff.mp hi).1
        omega
      · rw [List.range_succ, List.map_append]
        exact dps_snoc (dps_upd (e4 _ _ p3) (noLs_map hn _) (ex_dps e4 p4)) (dp_upd (e4 _ _ p3) (hn i) hy))
    (fun H' p => by
      obtain ⟨p1, p2, ys, p3, p4⟩ := p
      exact q D H' ys (fresh_back e1 p1) (e1.trans p2) p3 p4)⟩
end

/-! ### a call of a local that holds a def -/
def tCallH (P : Program) (w : World) (K : PySem.W.Frag) (mg : Str → Option Value) (base : Heap) (i k : Nat) (t : TA) : TE := fun σ H Q => ∃ f sp, σ[i]? = some (some (.ref f)) ∧ L2.Held P w K mg base k f sp ∧ t σ H fun vs H1 => sp vs H1 Q (fun _ _ _ => False)
theorem pe_callH {X : Cx} {x : Str} {p pos : Pos} {e : Expr} {es : List Expr} {t : TA} {i k : Nat} (hr : Room k X.A) (hN : X.N[i]? = some x) (hv : Vis X.env.scope x) (ha : PA X (e :: es) t)
    (hdb : (x == ("__debug__" : Str)) = false := by decide) (hcd : (x == ("__classdict__" : Str)) = false := by decide)
    (he : starEach (e :: es) X.env = (false, eval e X.env) :: starEach es X.env := by rfl) (hpl : (backTo pos (starEach es X.env)).any (·.1) = false := by rfl) : PE X (.Call (.Name x p) (e :: es) [] pos) (tCallH X.prog X.w X.K X.mg X.base i k t) := by
  refine ⟨fun pins s σ H Q I h => ?_⟩
  obtain ⟨f, sp, hs, hH, ht⟩ := h
  refine (L2.pe_callA (S := fun g => if g = f then some sp else none) (fun g sq z => ?_) hr hN hv ha hdb hcd he hpl).run pins s σ H Q I ⟨f, sp, hs, if_pos rfl, ht⟩
  by_cases e : g = f
  · rw [if_pos e] at z
    cases z
    rw [e]
    exact hH
  · rw [if_neg e] at z
    cases z
theorem held_of {P : Program} {w : World} {K : PySem.W.Frag} {mg : Str → Option Value} {base : Heap} {j k : Nat} {x : Str} {sp : Sp} {f : Addr} (c : C8.Cal P w K mg base j x sp []) (m : mg x = some (.ref f)) (h : j ≤ k) : L2.Held P w K mg base k f sp := by
  obtain ⟨f', fd, ps, ds, F, hm, kp, b, v⟩ := c.ex
  rw [m] at hm
  cases hm
  cases v
  exact ⟨fd, ps, F.mono h, kp, b⟩
/-- a def of two values that gives a value -/
def spBin (pre : V → V → Prop) (op : V → V → V) : Sp := fun vs H Q _ => ∃ x y : V, vs = [x, y] ∧ pre x y ∧ ∀ H', Ex H H' → Q (op x y) H'
theorem ec_held {P : Program} {w : World} {K : PySem.W.Frag} {mg : Str → Option Value} {base : Heap} {i k : Nat} {σ : L2.St} {H : Hp} {ta tb : TE} {f : Addr} {pre : V → V → Prop} {op : V → V → V} {x y : V} (hσ : σ[i]? = some (some (.ref f))) (h : L2.Held P w K mg base k f (spBin pre op)) (hp : pre x y) (ha : Ev ta σ H x) (hb : Ev tb σ H y) :
    Ev (tCallH P w K mg base i k (tCons ta (tCons tb tNil))) σ H (op x y) := fun H1 e Q q => ⟨f, _, hσ, h, ha H1 e _ fun H2 e2 => hb H2 (e.trans e2) _ fun H3 e3 => ⟨x, y, rfl, hp, fun H' e' => q H' ((e2.trans e3).trans e')⟩⟩

/-! ### the calendar -/
def leap (y : Int) : Bool := decide (y % 4 = 0) && (decide (y % 100 ≠ 0) || decide (y % 400 = 0))
def monthsL : List Int := [31, 28, 31, 30, 31, 30, 31, 31, 30, 31, 30, 31]
def mlen (y m : Int) : Int := if m = 2 ∧ leap y = true then 29 else monthsL.getD (m - 1).toNat 0
def cumN (y : Int) : Nat → Int
  | 0 => 0
  | k + 1 => cumN y k + mlen y ((k : Int) + 1)
def yst (y : Int) : Int := 365 * (y - 1) + (y - 1) / 4 - (y - 1) / 100 + (y - 1) / 400
def dayN (y m d : Int) : Int := -719162 + (yst y + cumN y (m - 1).toNat) + d - 1
def isD (y m d : Int) : Prop := (1 ≤ y ∧ y ≤ 9999) ∧ (1 ≤ m ∧ m ≤ 12) ∧ (1 ≤ d ∧ d ≤ mlen y m)
instance (y m d : Int) : Decidable (isD y m d) := by unfold isD; infer_instance
theorem month_cases {m : Int} (h : 1 ≤ m ∧ m ≤ 12) : m = 1 ∨ m = 2 ∨ m = 3 ∨ m = 4 ∨ m = 5 ∨ m = 6 ∨ m = 7 ∨ m = 8 ∨ m = 9 ∨ m = 10 ∨ m = 11 ∨ m = 12 := by omega
theorem mlen_in {y m : Int} (h : 1 ≤ m ∧ m ≤ 12) : 28 ≤ mlen y m ∧ mlen y m ≤ 31 := by
  unfold mlen
  split
  · omega
  · rcases month_cases h with rfl | rfl | rfl | rfl | rfl | rfl | rfl | rfl | rfl | rfl | rfl | rfl <;> decide
theorem cum12 (y : Int) : cumN y 12 = 365 + (if leap y = true then 1 else 0) := by
  simp only [cumN, mlen, monthsL]
  by_cases h : leap y = true
  · simp [h]
  · simp [h]
theorem cum_mono (y : Int) {j k : Nat} (h : j ≤ k) (hk : k ≤ 12) : cumN y j ≤ cumN y k := by
  induction k with
  | zero => rw [Nat.le_zero.mp h]; exact Int.le_refl _
  | succ k ih =>
    by_cases e : j = k + 1
    · rw [e]; exact Int.le_refl _
    · have h1 := ih (by omega) (by omega)
      have h2 := mlen_in (y := y) (m := (k : Int) + 1) (by omega)
      show cumN y j ≤ cumN y k + mlen y ((k : Int) + 1)
      omega
theorem cum_nn (y : Int) {k : Nat} (hk : k ≤ 12) : 0 ≤ cumN y k := cum_mono y (j := 0) (by omega) hk
theorem leap_iff (y : Int) : leap y = true ↔ y % 4 = 0 ∧ (y % 100 ≠ 0 ∨ y % 400 = 0) := by
  unfold leap
  rw [Bool.and_eq_true, Bool.or_eq_true, decide_eq_true_eq, decide_eq_true_eq, decide_eq_true_eq]
theorem yst_succ (y : Int) : yst (y + 1) = yst y + cumN y 12 := by
  rw [cum12]
  unfold yst
  by_cases h : leap y = true
  · rw [if_pos h]
    have := (leap_iff y).mp h
    omega
  · rw [if_neg h]
    have : ¬ (y % 4 = 0 ∧ (y % 100 ≠ 0 ∨ y % 400 = 0)) := fun z => h ((leap_iff y).mpr z)
    omega
theorem yst_mono {y z : Int} (h : y ≤ z) : yst y ≤ yst z := by
  unfold yst
  omega
/-- a date within its year -/
theorem in_year {y m d : Int} (h : isD y m d) : 0 ≤ cumN y (m - 1).toNat + d - 1 ∧ cumN y (m - 1).toNat + d - 1 < cumN y 12 ∧ cumN y (m - 1).toNat + d ≤ cumN y m.toNat := by
  obtain ⟨_, hm, hd⟩ := h
  have e : m.toNat = (m - 1).toNat + 1 := by omega
  have h1 := cum_nn y (k := (m - 1).toNat) (by omega)
  have h2 : cumN y m.toNat = cumN y (m - 1).toNat + mlen y m := by
    rw [e]
    show cumN y (m - 1).toNat + mlen y (((m - 1).toNat : Int) + 1) = _
    rw [show (((m - 1).toNat : Int) + 1) = m by omega]
  have h3 := cum_mono y (j := m.toNat) (k := 12) (by omega) (by omega)
  omega
theorem day_inj {y m d y' m' d' : Int} (h : isD y m d) (h' : isD y' m' d') (e : dayN y m d = dayN y' m' d') : y = y' ∧ m = m' ∧ d = d' := by
  obtain ⟨a1, a2, a3⟩ := in_year h
  obtain ⟨b1, b2, b3⟩ := in_year h'
  unfold dayN at e
  have ey : y = y' := by
    by_cases l : y < y'
    · have := yst_mono (show y + 1 ≤ y' by omega)
      rw [yst_succ] at this
      omega
    · by_cases g : y' < y
      · have := yst_mono (show y' + 1 ≤ y by omega)
        rw [yst_succ] at this
        omega
      · omega
  subst ey
  have em : m = m' := by
    by_cases l : m < m'
    · have := cum_mono y (j := m.toNat) (k := (m' - 1).toNat) (by have := h'.2.1; omega) (by have := h'.2.1; omega)
      have := h'.2.2.1
      omega
    · by_cases g : m' < m
      · have := cum_mono y (j := m'.toNat) (k := (m - 1).toNat) (by have := h.2.1; omega) (by have := h.2.1; omega)
        have := h.2.2.1
        omega
      · omega
  subst em
  exact ⟨rfl, rfl, by omega⟩
theorem day_in {y m d : Int} (h : isD y m d) : -719162 ≤ dayN y m d ∧ dayN y m d ≤ 2932896 := by
  obtain ⟨a1, a2, a3⟩ := in_year h
  have h1 := yst_mono h.1.1
  have h2 := yst_mono (show y + 1 ≤ 10000 by have := h.1.2; omega)
  rw [yst_succ] at h2
  have e1 : yst 1 = 0 := by decide
  have e2 : yst 10000 = 3652059 := by decide
  unfold dayN
  omega
/-- the parts of a day's number: cycles, centuries, fours, years, the rest -/
theorem parts {D c h f g r : Int} (hD : D = 146097 * c + 36524 * h + 1461 * f + 365 * g + r) (hc : 0 ≤ c ∧ c ≤ 24) (hh : 0 ≤ h ∧ h ≤ 3) (hf : 0 ≤ f ∧ f ≤ 24) (hg : 0 ≤ g ∧ g ≤ 3) (hr : 0 ≤ r ∧ r ≤ 365)
    (hl : r = 365 → g = 3 ∧ (f = 24 → h = 3)) : D = yst (400 * c + 100 * h + 4 * f + g + 1) + r ∧ r < cumN (400 * c + 100 * h + 4 * f + g + 1) 12 ∧ 1 ≤ 400 * c + 100 * h + 4 * f + g + 1 ∧ 400 * c + 100 * h + 4 * f + g + 1 ≤ 10000 := by
  have e4 : (400 * c + 100 * h + 4 * f + g) / 4 = 100 * c + 25 * h + f := by omega
  have e100 : (400 * c + 100 * h + 4 * f + g) / 100 = 4 * c + h := by omega
  have e400 : (400 * c + 100 * h + 4 * f + g) / 400 = c := by omega
  refine ⟨?_, ?_, by omega, by omega⟩
  · unfold yst
    rw [show 400 * c + 100 * h + 4 * f + g + 1 - 1 = 400 * c + 100 * h + 4 * f + g by omega, e4, e100, e400]
    omega
  · rw [cum12]
    by_cases e : r = 365
    · obtain ⟨l1, l2⟩ := hl e
      rw [if_pos ((leap_iff _).mpr ?_)]
      · omega
      · constructor
        · omega
        · by_cases q : f = 24
          · have := l2 q
            right
            omega
          · left
            omega
    · split <;> omega
noncomputable def dt (day : Int) : Int × Int × Int := by
  classical exact if h : ∃ t : Int × Int × Int, isD t.1 t.2.1 t.2.2 ∧ dayN t.1 t.2.1 t.2.2 = day then Classical.choose h else (0, 0, 0)
theorem dt_of {y m d : Int} (h : isD y m d) : dt (dayN y m d) = (y, m, d) := by
  have hx : ∃ t : Int × Int × Int, isD t.1 t.2.1 t.2.2 ∧ dayN t.1 t.2.1 t.2.2 = dayN y m d := ⟨(y, m, d), h, rfl⟩
  unfold dt
  rw [dif_pos hx]
  obtain ⟨h1, h2⟩ := Classical.choose_spec hx
  obtain ⟨e1, e2, e3⟩ := day_inj h1 h h2
  exact Prod.ext e1 (Prod.ext e2 e3)
theorem dt_eq {day y m d : Int} (h : isD y m d) (e : dayN y m d = day) : dt day = (y, m, d) := by
  rw [← e]
  exact dt_of h
/-- the year's day r, found month by month -/
theorem month_of {y r : Int} (h0 : 0 ≤ r) (h1 : r < cumN y 12) : ∃ k : Nat, k ≤ 11 ∧ cumN y k ≤ r ∧ r < cumN y (k + 1) := by
  have key : ∀ j : Nat, j ≤ 12 → r < cumN y j → ∃ k : Nat, k < j ∧ cumN y k ≤ r ∧ r < cumN y (k + 1) := by
    intro j
    induction j with
    | zero => intro _ h; exact absurd h (by show ¬ r < 0; omega)
    | succ j ih =>
      intro hj h
      by_cases q : r < cumN y j
      · obtain ⟨k, a, b, c⟩ := ih (by omega) q
        exact ⟨k, by omega, b, c⟩
      · exact ⟨j, by omega, by omega, h⟩
  obtain ⟨k, a, b, c⟩ := key 12 (by omega) h1
  exact ⟨k, by omega, b, c⟩
theorem day_split {day : Int} (h : -719162 ≤ day ∧ day ≤ 2932896) : ∃ y m d, isD y m d ∧ dayN y m d = day := by
  have key : ∀ D : Int, 0 ≤ D → D < 3652059 → ∃ y r : Int, 1 ≤ y ∧ y ≤ 9999 ∧ D = yst y + r ∧ 0 ≤ r ∧ r < cumN y 12 := by
    intro D h0 h1
    have p := parts (D := D) (c := D / 146097) (h := if D % 146097 / 36524 < 3 then D % 146097 / 36524 else 3)
      (f := (D % 146097 - (if D % 146097 / 36524 < 3 then D % 146097 / 36524 else 3) * 36524) / 1461)
      (g := if (D % 146097 - (if D % 146097 / 36524 < 3 then D % 146097 / 36524 else 3) * 36524) % 1461 / 365 < 3 then (D % 146097 - (if D % 146097 / 36524 < 3 then D % 146097 / 36524 else 3) * 36524) % 1461 / 365 else 3)
      (r := (D % 146097 - (if D % 146097 / 36524 < 3 then D % 146097 / 36524 else 3) * 36524) % 1461 - 365 * (if (D % 146097 - (if D % 146097 / 36524 < 3 then D % 146097 / 36524 else 3) * 36524) % 1461 / 365 < 3 then (D % 146097 - (if D % 146097 / 36524 < 3 then D % 146097 / 36524 else 3) * 36524) % 1461 / 365 else 3))
      (by split <;> split <;> omega) (by omega) (by split <;> omega) (by split <;> omega) (by split <;> split <;> omega) (by split <;> split <;> omega) (by split <;> split <;> omega)
    obtain ⟨p1, p2, p3, p4⟩ := p
    refine ⟨_, _, p3, ?_, p1, ?_, p2⟩
    · refine Int.not_lt.mp fun z => ?_
      have := yst_mono (show 10000 ≤ _ from z)
      rw [show yst 10000 = 3652059 by decide] at this
      have hr : 0 ≤ (D % 146097 - (if D % 146097 / 36524 < 3 then D % 146097 / 36524 else 3) * 36524) % 1461 - 365 * (if (D % 146097 - (if D % 146097 / 36524 < 3 then D % 146097 / 36524 else 3) * 36524) % 1461 / 365 < 3 then (D % 146097 - (if D % 146097 / 36524 < 3 then D % 146097 / 36524 else 3) * 36524) % 1461 / 365 else 3) := by split <;> split <;> omega
      omega
    · split <;> split <;> omega
  obtain ⟨y, r, h1, h2, h3, h4, h5⟩ := key (day + 719162) (by omega) (by omega)
  obtain ⟨k, k1, k2, k3⟩ := month_of h4 h5
  have k3' : r < cumN y k + mlen y ((k : Int) + 1) := k3
  refine ⟨y, (k : Int) + 1, r - cumN y k + 1, ⟨⟨h1, h2⟩, ⟨by omega, by omega⟩, by omega, by omega⟩, ?_⟩
  unfold dayN
  rw [show ((k : Int) + 1 - 1).toNat = k by omega]
  omega
theorem dt_ok {day : Int} (h : -719162 ≤ day ∧ day ≤ 2932896) : isD (dt day).1 (dt day).2.1 (dt day).2.2 ∧ dayN (dt day).1 (dt day).2.1 (dt day).2.2 = day := by
  obtain ⟨y, m, d, h1, h2⟩ := day_split h
  rw [dt_eq h1 h2]
  exact ⟨h1, h2⟩

def topS (i : Nat) : Stmt := PySem.Challenge.pw_stylobate_k10_operations_on_two_values.main.body.getD i (.Pass ⟨0, 0, 0, 0⟩)
abbrev s_kind_rank : Stmt := topS 1
abbrev n_kind_rank : List Str := ["value"]
theorem sc_kind_rank : FnScope n_kind_rank ["value"] (C8.fnScope s_kind_rank) := C8.fnScope_by (by decide +kernel)
abbrev s_is_integer : Stmt := topS 2
abbrev n_is_integer : List Str := ["value"]
theorem sc_is_integer : FnScope n_is_integer ["value"] (C8.fnScope s_is_integer) := C8.fnScope_by (by decide +kernel)
abbrev s_rank : Stmt := topS 3
abbrev n_rank : List Str := ["value", "kind"]
theorem sc_rank : FnScope n_rank ["value"] (C8.fnScope s_rank) := C8.fnScope_by (by decide +kernel)
abbrev s_same : Stmt := topS 4
abbrev n_same : List Str := ["first", "second"]
theorem sc_same : FnScope n_same ["first", "second"] (C8.fnScope s_same) := C8.fnScope_by (by decide +kernel)
abbrev s_before : Stmt := topS 5
abbrev n_before : List Str := ["first", "second"]
theorem sc_before : FnScope n_before ["first", "second"] (C8.fnScope s_before) := C8.fnScope_by (by decide +kernel)
abbrev s__pattern_parts : Stmt := topS 8
abbrev n__pattern_parts : List Str := ["pattern", "signs", "stars", "at", "sign"]
theorem sc__pattern_parts : FnScope n__pattern_parts ["pattern"] (C8.fnScope s__pattern_parts) := C8.fnScope_by (by decide +kernel)
abbrev s__places_of : Stmt := topS 9
abbrev n__places_of : List Str := ["signs", "wanted", "bits", "at", "sign"]
theorem sc__places_of : FnScope n__places_of ["signs", "wanted"] (C8.fnScope s__places_of) := C8.fnScope_by (by decide +kernel)
abbrev s_is_like : Stmt := topS 10
abbrev n_is_like : List Str := ["text", "pattern", "signs", "stars", "loops", "at", "star", "takes", "reached", "sign"]
theorem sc_is_like : FnScope n_is_like ["text", "pattern"] (C8.fnScope s_is_like) := C8.fnScope_by (by decide +kernel)
abbrev s_is_day : Stmt := topS 20
abbrev n_is_day : List Str := ["value"]
theorem sc_is_day : FnScope n_is_day ["value"] (C8.fnScope s_is_day) := C8.fnScope_by (by decide +kernel)
abbrev s__is_leap : Stmt := topS 21
abbrev n__is_leap : List Str := ["year"]
theorem sc__is_leap : FnScope n__is_leap ["year"] (C8.fnScope s__is_leap) := C8.fnScope_by (by decide +kernel)
abbrev s_month_length : Stmt := topS 22
abbrev n_month_length : List Str := ["year", "month"]
theorem sc_month_length : FnScope n_month_length ["year", "month"] (C8.fnScope s_month_length) := C8.fnScope_by (by decide +kernel)
abbrev s_day_of : Stmt := topS 23
abbrev n_day_of : List Str := ["year", "month", "date", "gone", "days", "earlier"]
theorem sc_day_of : FnScope n_day_of ["year", "month", "date"] (C8.fnScope s_day_of) := C8.fnScope_by (by decide +kernel)
abbrev s_date_of : Stmt := topS 24
abbrev n_date_of : List Str := ["day", "cycles", "rest", "centuries", "fours", "years", "year", "month"]
theorem sc_date_of : FnScope n_date_of ["day"] (C8.fnScope s_date_of) := C8.fnScope_by (by decide +kernel)
abbrev s_limited : Stmt := topS 27
abbrev n_limited : List Str := ["number"]
theorem sc_limited : FnScope n_limited ["number"] (C8.fnScope s_limited) := C8.fnScope_by (by decide +kernel)
abbrev s_rounded : Stmt := topS 28
abbrev n_rounded : List Str := ["number", "divisor", "size"]
theorem sc_rounded : FnScope n_rounded ["number", "divisor"] (C8.fnScope s_rounded) := C8.fnScope_by (by decide +kernel)
abbrev s_quotient : Stmt := topS 29
abbrev n_quotient : List Str := ["number", "divisor", "size"]
theorem sc_quotient : FnScope n_quotient ["number", "divisor"] (C8.fnScope s_quotient) := C8.fnScope_by (by decide +kernel)
abbrev s_both : Stmt := topS 31
abbrev n_both : List Str := ["first", "second"]
theorem sc_both : FnScope n_both ["first", "second"] (C8.fnScope s_both) := C8.fnScope_by (by decide +kernel)
abbrev s_either : Stmt := topS 32
abbrev n_either : List Str := ["first", "second"]
theorem sc_either : FnScope n_either ["first", "second"] (C8.fnScope s_either) := C8.fnScope_by (by decide +kernel)
abbrev s__both : Stmt := topS 34
abbrev n__both : List Str := ["first", "second"]
theorem sc__both : FnScope n__both ["first", "second"] (C8.fnScope s__both) := C8.fnScope_by (by decide +kernel)
abbrev s__either : Stmt := topS 35
abbrev n__either : List Str := ["first", "second"]
theorem sc__either : FnScope n__either ["first", "second"] (C8.fnScope s__either) := C8.fnScope_by (by decide +kernel)
abbrev s__same : Stmt := topS 36
abbrev n__same : List Str := ["first", "second"]
theorem sc__same : FnScope n__same ["first", "second"] (C8.fnScope s__same) := C8.fnScope_by (by decide +kernel)
abbrev s__first_known : Stmt := topS 37
abbrev n__first_known : List Str := ["first", "second"]
theorem sc__first_known : FnScope n__first_known ["first", "second"] (C8.fnScope s__first_known) := C8.fnScope_by (by decide +kernel)
abbrev s__equal : Stmt := topS 38
abbrev n__equal : List Str := ["first", "second"]
theorem sc__equal : FnScope n__equal ["first", "second"] (C8.fnScope s__equal) := C8.fnScope_by (by decide +kernel)
abbrev s__less : Stmt := topS 39
abbrev n__less : List Str := ["first", "second"]
theorem sc__less : FnScope n__less ["first", "second"] (C8.fnScope s__less) := C8.fnScope_by (by decide +kernel)
abbrev s__at_most : Stmt := topS 40
abbrev n__at_most : List Str := ["first", "second"]
theorem sc__at_most : FnScope n__at_most ["first", "second"] (C8.fnScope s__at_most) := C8.fnScope_by (by decide +kernel)
abbrev s__least : Stmt := topS 41
abbrev n__least : List Str := ["first", "second"]
theorem sc__least : FnScope n__least ["first", "second"] (C8.fnScope s__least) := C8.fnScope_by (by decide +kernel)
abbrev s__greatest : Stmt := topS 42
abbrev n__greatest : List Str := ["first", "second"]
theorem sc__greatest : FnScope n__greatest ["first", "second"] (C8.fnScope s__greatest) := C8.fnScope_by (by decide +kernel)
abbrev s__add : Stmt := topS 43
abbrev n__add : List Str := ["first", "second"]
theorem sc__add : FnScope n__add ["first", "second"] (C8.fnScope s__add) := C8.fnScope_by (by decide +kernel)
abbrev s__subtract : Stmt := topS 44
abbrev n__subtract : List Str := ["first", "second"]
theorem sc__subtract : FnScope n__subtract ["first", "second"] (C8.fnScope s__subtract) := C8.fnScope_by (by decide +kernel)
abbrev s__multiply : Stmt := topS 45
abbrev n__multiply : List Str := ["first", "second"]
theorem sc__multiply : FnScope n__multiply ["first", "second"] (C8.fnScope s__multiply) := C8.fnScope_by (by decide +kernel)
abbrev s__divide : Stmt := topS 46
abbrev n__divide : List Str := ["first", "second"]
theorem sc__divide : FnScope n__divide ["first", "second"] (C8.fnScope s__divide) := C8.fnScope_by (by decide +kernel)
abbrev s__rest : Stmt := topS 47
abbrev n__rest : List Str := ["first", "second"]
theorem sc__rest : FnScope n__rest ["first", "second"] (C8.fnScope s__rest) := C8.fnScope_by (by decide +kernel)
abbrev s__multiply_decimals : Stmt := topS 48
abbrev n__multiply_decimals : List Str := ["first", "second"]
theorem sc__multiply_decimals : FnScope n__multiply_decimals ["first", "second"] (C8.fnScope s__multiply_decimals) := C8.fnScope_by (by decide +kernel)
abbrev s__divide_decimals : Stmt := topS 49
abbrev n__divide_decimals : List Str := ["first", "second"]
theorem sc__divide_decimals : FnScope n__divide_decimals ["first", "second"] (C8.fnScope s__divide_decimals) := C8.fnScope_by (by decide +kernel)
abbrev s__join : Stmt := topS 50
abbrev n__join : List Str := ["first", "second"]
theorem sc__join : FnScope n__join ["first", "second"] (C8.fnScope s__join) := C8.fnScope_by (by decide +kernel)
abbrev s__like : Stmt := topS 51
abbrev n__like : List Str := ["first", "second"]
theorem sc__like : FnScope n__like ["first", "second"] (C8.fnScope s__like) := C8.fnScope_by (by decide +kernel)
abbrev s__position : Stmt := topS 52
abbrev n__position : List Str := ["first", "second"]
theorem sc__position : FnScope n__position ["first", "second"] (C8.fnScope s__position) := C8.fnScope_by (by decide +kernel)
abbrev s__add_days : Stmt := topS 53
abbrev n__add_days : List Str := ["day", "many", "later"]
theorem sc__add_days : FnScope n__add_days ["day", "many"] (C8.fnScope s__add_days) := C8.fnScope_by (by decide +kernel)
abbrev s__add_months : Stmt := topS 54
abbrev n__add_months : List Str := ["day", "many", "year", "month", "date", "years", "before_it"]
theorem sc__add_months : FnScope n__add_months ["day", "many"] (C8.fnScope s__add_months) := C8.fnScope_by (by decide +kernel)
abbrev s__are_alike : Stmt := topS 60
abbrev n__are_alike : List Str := ["first", "second"]
theorem sc__are_alike : FnScope n__are_alike ["first", "second"] (C8.fnScope s__are_alike) := C8.fnScope_by (by decide +kernel)
abbrev s_value_of_two : Stmt := topS 61
abbrev n_value_of_two : List Str := ["name", "first", "second", "action"]
theorem sc_value_of_two : FnScope n_value_of_two ["name", "first", "second"] (C8.fnScope s_value_of_two) := C8.fnScope_by (by decide +kernel)
abbrev s_binary : Stmt := topS 64
abbrev n_binary : List Str := ["name", "first", "second"]
theorem sc_binary : FnScope n_binary ["name", "first", "second"] (C8.fnScope s_binary) := C8.fnScope_by (by decide +kernel)
abbrev s__law_numbers : Stmt := topS 66
abbrev n__law_numbers : List Str := ["script", "count", "numbers", "k", "cell"]
theorem sc__law_numbers : FnScope n__law_numbers ["script", "count"] (C8.fnScope s__law_numbers) := C8.fnScope_by (by decide +kernel)
abbrev s__law_is_integer : Stmt := topS 67
abbrev n__law_is_integer : List Str := ["value"]
theorem sc__law_is_integer : FnScope n__law_is_integer ["value"] (C8.fnScope s__law_is_integer) := C8.fnScope_by (by decide +kernel)
abbrev s__law_rank : Stmt := topS 68
abbrev n__law_rank : List Str := ["value"]
theorem sc__law_rank : FnScope n__law_rank ["value"] (C8.fnScope s__law_rank) := C8.fnScope_by (by decide +kernel)
abbrev s__law_text : Stmt := topS 69
abbrev n__law_text : List Str := ["number", "size", "signs", "few", "word", "rest", "k"]
theorem sc__law_text : FnScope n__law_text ["number", "size"] (C8.fnScope s__law_text) := C8.fnScope_by (by decide +kernel)
abbrev s__law_value : Stmt := topS 70
abbrev n__law_value : List Str := ["number", "rest", "choice"]
theorem sc__law_value : FnScope n__law_value ["number"] (C8.fnScope s__law_value) := C8.fnScope_by (by decide +kernel)
abbrev s__law_told : Stmt := topS 71
abbrev n__law_told : List Str := ["told", "due"]
theorem sc__law_told : FnScope n__law_told ["told", "due"] (C8.fnScope s__law_told) := C8.fnScope_by (by decide +kernel)
abbrev s__law_compared : Stmt := topS 72
abbrev n__law_compared : List Str := ["name", "first", "second", "one", "other"]
theorem sc__law_compared : FnScope n__law_compared ["name", "first", "second"] (C8.fnScope s__law_compared) := C8.fnScope_by (by decide +kernel)
abbrev s__law_reckoned : Stmt := topS 73
abbrev n__law_reckoned : List Str := ["name", "first", "second"]
theorem sc__law_reckoned : FnScope n__law_reckoned ["name", "first", "second"] (C8.fnScope s__law_reckoned) := C8.fnScope_by (by decide +kernel)
abbrev s__law_dated : Stmt := topS 74
abbrev n__law_dated : List Str := ["name", "day", "count", "year", "month", "number", "months"]
theorem sc__law_dated : FnScope n__law_dated ["name", "day", "count"] (C8.fnScope s__law_dated) := C8.fnScope_by (by decide +kernel)
abbrev s__law_due : Stmt := topS 75
abbrev n__law_due : List Str := ["name", "first", "second"]
theorem sc__law_due : FnScope n__law_due ["name", "first", "second"] (C8.fnScope s__law_due) := C8.fnScope_by (by decide +kernel)
abbrev s_law : Stmt := topS 76
abbrev n_law : List Str := ["script", "numbers", "names", "first", "second", "choice", "name"]
theorem sc_law : FnScope n_law ["script"] (C8.fnScope s_law) := C8.fnScope_by (by decide +kernel)
/-! ### the law's numbers -/
def cell0 (ns : List Int) (k : Nat) : Int := if 0 < ns.length then ns.getD (k - k / ns.length * ns.length) 0 else 0
def cell1 (ns : List Int) (k : Nat) : Int := if cell0 ns k < 0 then 1 - 2 * cell0 ns k else cell0 ns k
def cellM (c : Int) (k : Nat) : Int := (((c + 101 * (k : Int) + 13) * 40692 + (k : Int) * (k : Int) * 6271) % 2147483399 + 29 * (k : Int) + 5) * 3935559000370003845 % 18446744073709551533
def cellN (ns : List Int) (k : Nat) : Int := if (ns.length : Int) ≤ (k : Int) ∨ cell1 ns k < 1000000000 then cellM (cell1 ns k) k else cell1 ns k
def lawN (ns : List Int) (c : Nat) : List Int := (List.range c).map (cellN ns)
theorem cell1_nn (ns : List Int) (k : Nat) : 0 ≤ cell1 ns k := by
  unfold cell1
  split <;> omega
theorem cellN_nn (ns : List Int) (k : Nat) : 0 ≤ cellN ns k := by
  unfold cellN
  split
  · unfold cellM
    exact Int.emod_nonneg _ (by decide)
  · exact cell1_nn ns k
theorem lawN_len (ns : List Int) (c : Nat) : (lawN ns c).length = c := by
  unfold lawN
  rw [List.length_map, List.length_range]
theorem lawN_nn {ns : List Int} {c : Nat} : ∀ n ∈ lawN ns c, 0 ≤ n := by
  intro n h
  unfold lawN at h
  obtain ⟨k, _, e⟩ := List.mem_map.mp h
  rw [← e]
  exact cellN_nn ns k
theorem lawN_get {ns : List Int} {c i : Nat} (h : i < c) : (lawN ns c)[i]? = some (cellN ns i) := by
  unfold lawN
  rw [List.getElem?_map, List.getElem?_range h] <;> rfl
/-- the k-th of them, as the law's list of values -/
theorem lawN_at {ns : List Int} {c i : Nat} (h : i < c) : atI ((lawN ns c).map V.int) (i : Int) = some (.int (cellN ns i)) := atI_nat (by
  rw [List.getElem?_map, lawN_get h] <;> rfl)
def sp__law_numbers (K : PySem.W.Frag) : Sp := fun vs H Q _ => ∃ (a : Addr) (ns : List Int) (c : Nat), vs = [.ref a, .int (c : Int)] ∧ SqL K H a (ns.map V.int) ∧ ns.length ≤ 63 ∧ c ≤ 1000 ∧
  ∀ p H', H p = none → Ex H H' → H' p = some (.lst ((lawN ns c).map V.int)) → Q (.ref p) H'
section
variable {P : Program} {w : World} {K : PySem.W.Frag} {mg : Str → Option Value} {base : Heap}
theorem ok__law_numbers (D : Dn K mg "_law_numbers" s__law_numbers ["script", "count"]) (z_int : mg "int" = none) (z_len : mg "len" = none) (z_range : mg "range" = none) :
    C8.Cal P w K mg base 1 "_law_numbers" (sp__law_numbers K) [] := by
  refine cal_of D sc__law_numbers (fun vs H Q E h => ?_) (fun f cdv A outer s H vs Q E hr h => ?_)
  · obtain ⟨_, _, _, rfl, _⟩ := h
    rfl
  refine ⟨_, (pss_cons (ps_set (i := 2) sc__law_numbers.nd rfl (.inl rfl) (pe_lst pa_nil))
    (pss_cons (ps_for PassesOwn.never rfl (pi_range1 rfl z_range (pa_cons (pv 1) pa_nil)) (pg_name (i := 3) sc__law_numbers.nd rfl (.inl rfl))
      (pss_cons (ps_set (i := 4) sc__law_numbers.nd rfl (.inl rfl) pe_int)
    (pss_cons (ps_if (pt_cmpR op_gt (pe_callB call_len_seq (by rfl) z_len PySem.boot_len (pa_cons (pv 0) pa_nil)) pe_int (nomark _))
      (pss_one (ps_set (i := 4) sc__law_numbers.nd rfl (.inl rfl) (pe_callTy call_int1 (by rfl) z_int (by decide +kernel) (pa_cons (pe_ix ix_list (pv 0) (pe_op op_sub (pv 3) (pe_op op_mul (pe_op op_fdiv (pv 3) (pe_callB call_len_seq (by rfl) z_len PySem.boot_len (pa_cons (pv 0) pa_nil))) (pe_callB call_len_seq (by rfl) z_len PySem.boot_len (pa_cons (pv 0) pa_nil)))) (fun _ _ => rfl)) pa_nil))))
      pss_nil)
    (pss_cons (ps_if (pt_cmpR op_lt (pv 4) pe_int (nomark _))
      (pss_one (ps_set (i := 4) sc__law_numbers.nd rfl (.inl rfl) (pe_op op_sub pe_int (pe_op op_mul pe_int (pv 4)))))
      pss_nil)
    (Evl.pss_cut (ps_if (PW.pt (pw_or (pt_cmpR op_ge (pv 3) (pe_callB call_len_seq (by rfl) z_len PySem.boot_len (pa_cons (pv 0) pa_nil)) (nomark _)) (pw_or1 (pt_cmpR op_lt (pv 4) pe_int (nomark _)))))
      (pss_cons (ps_set (i := 4) sc__law_numbers.nd rfl (.inl rfl) (pe_op op_mod (pe_callTy call_int1 (by rfl) z_int (by decide +kernel) (pa_cons (pe_op op_add (pe_op op_mul (pe_op op_add (pe_op op_add (pv 4) (pe_op op_mul pe_int (pv 3))) pe_int) pe_int) (pe_op op_mul (pe_op op_mul (pv 3) (pv 3)) pe_int)) pa_nil)) pe_int))
    (pss_one (ps_set (i := 4) sc__law_numbers.nd rfl (.inl rfl) (pe_op op_mod (pe_callTy call_int1 (by rfl) z_int (by decide +kernel) (pa_cons (pe_op op_mul (pe_op op_add (pe_op op_add (pv 4) (pe_op op_mul pe_int (pv 3))) pe_int) pe_int) pa_nil)) pe_int))))
      pss_nil)
    (pss_one (ps_expr (pe_bm PySem.F.plainAttrs_list PySem.F.slot_list_append PySem.F.type_list_append mt_append (pv 2) (pa_cons (pv 4) pa_nil)))))))))
    (pss_one (ps_ret (pv 2))))), ?_⟩
  obtain ⟨a, ns, c, rfl, hS, h63, hc, q⟩ := h
  have hl : (ns.map V.int).length = ns.length := List.length_map _
  refine q_asgL (el_lst ea_nil (by decide)) fun p H1 hp e1 h1 => ?_
  refine q_forR1 (n := (c : Int)) (ea_cons (ev_var rfl) ea_nil) ⟨by omega, by omega⟩
    (fun i σ H' => ∃ y3 y4, σ = [some (.ref a), some (.int (c : Int)), some (.ref p), y3, y4] ∧ Ex H H' ∧ H' p = some (.lst ((lawN ns i).map V.int)))
    (fun H2 e2 => ⟨none, none, rfl, e1.trans e2, e2 _ _ h1⟩) (fun i σ H2 hi hw => ?_) (fun σ H2 hw => ?_)
  · obtain ⟨y3, y4, rfl, e2, h2⟩ := hw
    have hS2 : SqL K H2 a (ns.map V.int) := ex_l e2 hS
    refine q_asg ev_c fun H3 e3 => ?_
    have hS3 : SqL K H3 a (ns.map V.int) := ex_l e3 hS2
    -- the cell as the script has it
    refine q_ifAsg (v := .int (cell0 ns i)) (b := decide ((0 : Int) < ((ns.map V.int).length : Int))) ?_ (fun hb => ?_) (fun hb => ?_) fun H4 e4 => ?_
    · walk_at "et"
    · have h0 : 0 < ns.length := by
        have := of_decide_eq_true hb
        rw [hl] at this
        omega
      have em : i / ns.length * ns.length ≤ i := Nat.div_mul_le_self i ns.length
      have hlt : i - i / ns.length * ns.length < ns.length := by
        have := Nat.mod_lt i h0
        have := Nat.div_add_mod i ns.length
        rw [Nat.mul_comm] at this
        omega
      have ea : atI (ns.map V.int) ((i : Int) - (i : Int) / ((ns.map V.int).length : Int) * ((ns.map V.int).length : Int)) = some (.int (cell0 ns i)) := by
        rw [hl]
        have e5 : (i : Int) - (i : Int) / (ns.length : Int) * (ns.length : Int) = ((i - i / ns.length * ns.length : Nat) : Int) := by
          rw [Int.ofNat_sub em, Int.natCast_mul, Int.natCast_ediv]
        rw [e5]
        refine atI_nat ?_
        unfold cell0
        rw [if_pos h0, List.getElem?_map, List.getElem?_eq_getElem hlt, List.getD_eq_getElem?_getD, List.getElem?_eq_getElem hlt] <;> rfl
      refine ev_int (ev_op (ev_var rfl) (ev_op (ev_var rfl) (ev_op (ev_op (ev_var rfl) (ev_len (ev_var rfl) hS3) (rv_I ⟨?_, ?_⟩)) (ev_len (ev_var rfl) hS3) (rv_I ?_)) rv_I0) (rv_ixL hS3 ea))
      · rw [hl]; omega
      · rw [hl]; omega
      · rw [hl]; exact .inr ⟨by omega, by omega⟩
    · have h0 : ¬ 0 < ns.length := by
        have := of_decide_eq_false hb
        rw [hl] at this
        omega
      unfold cell0
      rw [if_neg h0]
      rfl
    have hS4 : SqL K H4 a (ns.map V.int) := ex_l e4 hS3
    refine q_ifAsg (v := .int (cell1 ns i)) (b := decide (cell0 ns i < 0)) (by walk_at "et") (fun hb => ?_) (fun hb => ?_) fun H5 e5 => ?_
    · refine ev_is (v := .int (1 - 2 * cell0 ns i)) (by walk_at "ev") ?_
      unfold cell1
      rw [if_pos (of_decide_eq_true hb)]
    · unfold cell1
      rw [if_neg (of_decide_eq_false hb)]
      rfl
    have hS5 : SqL K H5 a (ns.map V.int) := ex_l e5 hS4
    have h5 : H5 p = some (.lst ((lawN ns i).map V.int)) := e5 _ _ (e4 _ _ (e3 _ _ h2))
    have x5 : Ex H H5 := ((e2.trans e3).trans e4).trans e5
    -- the cell mixed
    refine q_cut (M := fun σ H' => σ = [some (.ref a), some (.int (c : Int)), some (.ref p), some (.int (i : Int)), some (.int (cellN ns i))] ∧ Ex H5 H') ?_ ?_
    · refine s_if (b := decide ((((ns.map V.int).length : Nat) : Int) ≤ (i : Int)) || decide (cell1 ns i < 1000000000)) ?_ (fun hb H6 e6 => ?_) (fun hb H6 e6 => ?_)
      · exact et_or (et_test (ev_op (ev_var rfl) (ev_len (ev_var rfl) hS5) rv_I0)) fun _ => et_test (ev_op (ev_var rfl) ev_c rv_I0)
      · have hb' : (ns.length : Int) ≤ (i : Int) ∨ cell1 ns i < 1000000000 := by
          rw [Bool.or_eq_true, decide_eq_true_eq, decide_eq_true_eq, hl] at hb
          exact hb
        refine q_asg (v := .int (((cell1 ns i + 101 * (i : Int) + 13) * 40692 + (i : Int) * (i : Int) * 6271) % 2147483399)) ?_ fun H7 e7 => ?_
        · refine ev_op (ev_int (ev_op (ev_op (ev_op (ev_op (ev_var rfl) (ev_op ev_c (ev_var rfl) (rv_I (.inl ⟨by decide, by decide⟩))) rv_I0) ev_c rv_I0) ev_c (rv_I (.inr ⟨by decide, by decide⟩))) (ev_op (ev_op (ev_var rfl) (ev_var rfl) (rv_I (.inl ⟨by omega, by omega⟩))) ev_c (rv_I (.inr ⟨by decide, by decide⟩))) rv_I0)) ev_c (rv_I (by decide))
        refine s_asg (v := .int (cellN ns i)) ?_ fun H8 e8 => ⟨rfl, (e6.trans e7).trans e8⟩
        refine ev_is (ev_op (ev_int (ev_op (ev_op (ev_op (ev_var rfl) (ev_op ev_c (ev_var rfl) (rv_I (.inl ⟨by decide, by decide⟩))) rv_I0) ev_c rv_I0) ev_c (rv_I (.inr ⟨by decide, by decide⟩)))) ev_c (rv_I (by decide))) ?_
        unfold cellN
        rw [if_pos hb']
        rfl
      · have hb' : ¬ ((ns.length : Int) ≤ (i : Int) ∨ cell1 ns i < 1000000000) := by
          intro z
          rw [Bool.or_eq_false_iff, decide_eq_false_iff_not, decide_eq_false_iff_not, hl] at hb
          rcases z with z | z
          · exact hb.1 z
          · exact hb.2 z
        refine ⟨?_, e6⟩
        unfold cellN
        rw [if_neg hb']
        rfl
    · intro σ' H' hm
      obtain ⟨rfl, x6⟩ := hm
      refine s_app (x6 _ _ h5) (ev_var rfl) (ev_var rfl) (by rw [List.length_map, lawN_len]; omega) fun H7 e7 => ?_
      refine ⟨_, _, rfl, Ex.mut ((x5.trans x6).trans e7) hp, ?_⟩
      rw [upd_same]
      unfold lawN
      rw [List.range_succ, List.map_append, List.map_append]
      rfl
  · obtain ⟨y3, y4, rfl, e2, h2⟩ := hw
    have ec : ((c : Int)).toNat = c := by omega
    rw [ec] at h2
    exact s_ret (ev_var rfl) fun H3 e3 => q p H3 hp (e2.trans e3) (e3 _ _ h2)
end

/-! ### the law's texts and values -/
def signsL : List Nat := (PySem.Str.ofString " !\"#$&'()*+,-./0123456789:;<=>?@ABCDEFGHIJKLMNOPQRSTUVWXYZ[\\]^_`abcdefghijklmnopqrstuvwxyz{|}~").cps.toList
def fewL : List Nat := (PySem.Str.ofString "ab*?\\ -'\"A").cps.toList
theorem signs_len : signsL.length = 94 := by decide +kernel
theorem few_len : fewL.length = 10 := by decide +kernel
theorem signs_ok : ∀ c ∈ signsL, 32 ≤ c ∧ c ≤ 126 := by decide +kernel
theorem few_ok : ∀ c ∈ fewL, 32 ≤ c ∧ c ≤ 126 := by decide +kernel
/-- what is written so far, and the rest of the number -/
def lawTS (n : Int) : Nat → List Nat × Int
  | 0 => ([], n / 3)
  | k + 1 => if n % 3 = 0 then ((lawTS n k).1 ++ [signsL.getD ((lawTS n k).2 % 94).toNat 0], (lawTS n k).2 / 94 + 7 * (k : Int))
      else ((lawTS n k).1 ++ [fewL.getD ((lawTS n k).2 % 10).toNat 0], (lawTS n k).2 / 10 + 7 * (k : Int))
def lawT (n : Int) (size : Nat) : List Nat := (lawTS n size).1
def okC (c : Nat) : Prop := 32 ≤ c ∧ c ≤ 126
theorem getD_mem {l : List Nat} {i : Nat} (h : i < l.length) : l.getD i 0 ∈ l := by
  rw [List.getD_eq_getElem?_getD, List.getElem?_eq_getElem h]
  exact List.getElem_mem h
theorem sign_at {l : List Nat} {r : Int} {m : Nat} (hl : l.length = m) (hm : 0 < m) : (r % (m : Int)).toNat < l.length := by
  have h1 := Int.emod_nonneg r (show (m : Int) ≠ 0 by omega)
  have h2 := Int.emod_lt_of_pos r (show (0 : Int) < (m : Int) by omega)
  omega
theorem pick {l : List Nat} {r : Int} {m : Nat} (hl : l.length = m) (hm : 0 < m) : atI l (r % (m : Int)) = some (l.getD (r % (m : Int)).toNat 0) := by
  have hx := sign_at (r := r) hl hm
  have h1 := Int.emod_nonneg r (show (m : Int) ≠ 0 by omega)
  have e : atI l (((r % (m : Int)).toNat : Nat) : Int) = some (l.getD (r % (m : Int)).toNat 0) := atI_nat (by
    rw [List.getElem?_eq_getElem hx, List.getD_eq_getElem?_getD, List.getElem?_eq_getElem hx] <;> rfl)
  rw [Int.toNat_of_nonneg h1] at e
  exact e
theorem lawT_len (n : Int) : ∀ k, (lawT n k).length = k
  | 0 => rfl
  | k + 1 => by
    have ih := lawT_len n k
    unfold lawT at ih ⊢
    rw [lawTS]
    split <;> (show (_ ++ [_]).length = k + 1; rw [List.length_append, ih] <;> rfl)
theorem lawT_ok (n : Int) : ∀ k, ∀ c ∈ lawT n k, okC c
  | 0, c, h => by cases h
  | k + 1, c, h => by
    have ih := lawT_ok n k
    unfold lawT at ih h
    rw [lawTS] at h
    split at h
    · rcases List.mem_append.mp h with h | h
      · exact ih c h
      · rw [List.mem_singleton.mp h]
        exact signs_ok _ (getD_mem (sign_at signs_len (by decide)))
    · rcases List.mem_append.mp h with h | h
      · exact ih c h
      · rw [List.mem_singleton.mp h]
        exact few_ok _ (getD_mem (sign_at few_len (by decide)))
def lawV (n : Int) : V :=
  if n % 8 = 0 then .non else if n % 8 = 1 then .bl (decide (n / 8 % 2 = 0)) else if n % 8 = 2 then .int (n / 8 % 3 - 1)
  else if n % 8 = 3 then .int (n / 8 % 2000000000000001 - 1000000000000000) else if n % 8 = 4 then .int (n / 8 % 3652059 - 719162)
  else if n % 8 = 5 then .int (n / 8 % 40 - 20) else .str (SX.S (lawT (n / 8 / 13) (n / 8 % 13).toNat))
/-- a plain value: None, a boolean, a small integer, a short text of plain signs -/
inductive VOk : V → Prop where
  | non : VOk .non
  | bl (b : Bool) : VOk (.bl b)
  | int (i : Int) (h : -1000000000000000 ≤ i ∧ i ≤ 1000000000000000) : VOk (.int i)
  | str (l : List Nat) (h : l.length ≤ 12) (hc : ∀ c ∈ l, okC c) : VOk (.str (SX.S l))
theorem lawV_ok (n : Int) : VOk (lawV n) := by
  unfold lawV
  split
  · exact .non
  split
  · exact .bl _
  split
  · exact .int _ (by omega)
  split
  · exact .int _ (by omega)
  split
  · exact .int _ (by omega)
  split
  · exact .int _ (by omega)
  · exact .str _ (by rw [lawT_len]; omega) (lawT_ok _ _)
def sp__law_text (K : PySem.W.Frag) : Sp := fun vs H Q _ => ∃ (n : Int) (z : Nat), vs = [.int n, .int (z : Int)] ∧ z ≤ 1000 ∧ ∀ H', Ex H H' → Q (.str (SX.S (lawT n z))) H'
def sp__law_value (K : PySem.W.Frag) : Sp := fun vs H Q _ => ∃ n : Int, vs = [.int n] ∧ ∀ H', Ex H H' → Q (lawV n) H'
theorem join_ones : ∀ l : List Nat, Txt.join (SX.S []) (l.map fun c => (⟨#[c]⟩ : Str)) = SX.S l := by
  intro l
  have e : (l.map fun c => (⟨#[c]⟩ : Str)) = (l.map fun c => [c]).map SX.S := by
    rw [List.map_map]
    rfl
  rw [e, SX.join_S]
  congr 1
  induction l with
  | nil => rfl
  | cons c r ih =>
    cases r with
    | nil => rfl
    | cons d r => 
      have e2 : TL.joinL [] (List.map (fun c => [c]) (c :: d :: r)) = c :: TL.joinL [] (List.map (fun c => [c]) (d :: r)) := rfl
      rw [e2, ih (by rw [List.map_map]; rfl)]
section
variable {P : Program} {w : World} {K : PySem.W.Frag} {mg : Str → Option Value} {base : Heap}
theorem ok__law_text (D : Dn K mg "_law_text" s__law_text ["number", "size"]) (z_int : mg "int" = none) (z_range : mg "range" = none) :
    C8.Cal P w K mg base 1 "_law_text" (sp__law_text K) [] := by
  refine cal_of D sc__law_text (fun vs H Q E h => ?_) (fun f cdv A outer s H vs Q E hr h => ?_)
  · obtain ⟨_, _, rfl, _⟩ := h
    rfl
  refine ⟨_, (pss_cons (ps_set (i := 2) sc__law_text.nd rfl (.inl rfl) pe_str)
    (pss_cons (ps_set (i := 3) sc__law_text.nd rfl (.inl rfl) pe_str)
    (pss_cons (ps_set (i := 4) sc__law_text.nd rfl (.inl rfl) (pe_lst pa_nil))
    (pss_cons (ps_set (i := 5) sc__law_text.nd rfl (.inl rfl) (pe_op op_fdiv (pe_callTy call_int1 (by rfl) z_int (by decide +kernel) (pa_cons (pv 0) pa_nil)) pe_int))
    (pss_cons (ps_for PassesOwn.never rfl (pi_range1 rfl z_range (pa_cons (pv 1) pa_nil)) (pg_name (i := 6) sc__law_text.nd rfl (.inl rfl))
      (pss_one (ps_if (pt_cmpR op_eq (pe_op op_mod (pe_callTy call_int1 (by rfl) z_int (by decide +kernel) (pa_cons (pv 0) pa_nil)) pe_int) pe_int (nomark _))
      (pss_cons (ps_expr (pe_bm PySem.F.plainAttrs_list PySem.F.slot_list_append PySem.F.type_list_append mt_append (pv 4) (pa_cons (pe_ix ix_str (pv 2) (pe_op op_mod (pe_callTy call_int1 (by rfl) z_int (by decide +kernel) (pa_cons (pv 5) pa_nil)) pe_int) (fun _ _ => rfl)) pa_nil)))
    (pss_one (ps_set (i := 5) sc__law_text.nd rfl (.inl rfl) (pe_op op_add (pe_op op_fdiv (pv 5) pe_int) (pe_op op_mul pe_int (pv 6))))))
      (pss_cons (ps_expr (pe_bm PySem.F.plainAttrs_list PySem.F.slot_list_append PySem.F.type_list_append mt_append (pv 4) (pa_cons (pe_ix ix_str (pv 3) (pe_op op_mod (pe_callTy call_int1 (by rfl) z_int (by decide +kernel) (pa_cons (pv 5) pa_nil)) pe_int) (fun _ _ => rfl)) pa_nil)))
    (pss_one (ps_set (i := 5) sc__law_text.nd rfl (.inl rfl) (pe_op op_add (pe_op op_fdiv (pv 5) pe_int) (pe_op op_mul pe_int (pv 6)))))))))
    (pss_one (ps_ret (pe_join pe_str (pv 4))))))))), ?_⟩
  obtain ⟨n, z, rfl, hz, q⟩ := h
  refine q_asg ev_c fun H1 e1 => ?_
  refine q_asg ev_c fun H2 e2 => ?_
  refine q_asgL (el_lst ea_nil (by decide)) fun p H3 hp e3 h3 => ?_
  refine q_asg (v := .int (n / 3)) (by walk_at "ev") fun H4 e4 => ?_
  have x2 : Ex H H2 := e1.trans e2
  refine q_forR1 (n := (z : Int)) (ea_cons (ev_var rfl) ea_nil) ⟨by omega, by omega⟩
    (fun i σ H' => ∃ y6, σ = [some (.int n), some (.int (z : Int)), some (.str (SX.S signsL)), some (.str (SX.S fewL)), some (.ref p), some (.int (lawTS n i).2), y6] ∧ Ex H2 H' ∧ H' p = some (.lst ((lawT n i).map fun c => V.str ⟨#[c]⟩)))
    (fun H5 e5 => ⟨none, rfl, (e3.trans e4).trans e5, e5 _ _ (e4 _ _ h3)⟩) (fun i σ H5 hi hw => ?_) (fun σ H5 hw => ?_)
  · obtain ⟨y6, rfl, e5, h5⟩ := hw
    have hlen : (((lawT n i).map fun c => V.str ⟨#[c]⟩)).length < 100000 := by
      rw [List.length_map, lawT_len]
      omega
    refine s_if (b := decide (V.int (n % 3) = V.int 0)) (by walk_at "et") (fun hb H6 e6 => ?_) (fun hb H6 e6 => ?_)
    · have hb' : n % 3 = 0 := V.int.inj (of_decide_eq_true hb)
      have hx := sign_at (r := (lawTS n i).2) signs_len (by decide)
      refine q_app (v := .str ⟨#[signsL.getD ((lawTS n i).2 % 94).toNat 0]⟩) (e6 _ _ h5) (ev_var rfl) ?_ hlen fun H7 e7 => ?_
      · refine ev_op (ev_var rfl) (y := .int ((lawTS n i).2 % 94)) (by walk_at "ev") (rv_ixS (by decide +kernel) ?_)
        exact pick (m := 94) signs_len (by decide)
      refine s_asg (v := .int ((lawTS n (i + 1)).2)) ?_ fun H8 e8 => ?_
      · refine ev_is (v := .int ((lawTS n i).2 / 94 + 7 * (i : Int))) (by walk_at "ev") ?_
        rw [lawTS, if_pos hb']
      · refine ⟨_, rfl, (Ex.mut ((e5.trans e6).trans e7) (fresh_back (Ex.refl _) hp)).trans e8, ?_⟩
        refine e8 _ _ ?_
        rw [upd_same]
        unfold lawT
        rw [lawTS, if_pos hb', List.map_append]
        rfl
    · have hb' : ¬ n % 3 = 0 := fun e => of_decide_eq_false hb (by rw [e])
      have hx := sign_at (r := (lawTS n i).2) few_len (by decide)
      refine q_app (v := .str ⟨#[fewL.getD ((lawTS n i).2 % 10).toNat 0]⟩) (e6 _ _ h5) (ev_var rfl) ?_ hlen fun H7 e7 => ?_
      · refine ev_op (ev_var rfl) (y := .int ((lawTS n i).2 % 10)) (by walk_at "ev") (rv_ixS (by decide +kernel) ?_)
        exact pick (m := 10) few_len (by decide)
      refine s_asg (v := .int ((lawTS n (i + 1)).2)) ?_ fun H8 e8 => ?_
      · refine ev_is (v := .int ((lawTS n i).2 / 10 + 7 * (i : Int))) (by walk_at "ev") ?_
        rw [lawTS, if_neg hb']
      · refine ⟨_, rfl, (Ex.mut ((e5.trans e6).trans e7) (fresh_back (Ex.refl _) hp)).trans e8, ?_⟩
        refine e8 _ _ ?_
        rw [upd_same]
        unfold lawT
        rw [lawTS, if_neg hb', List.map_append]
        rfl
  · obtain ⟨y6, rfl, e5, h5⟩ := hw
    have ez : ((z : Int)).toNat = z := by omega
    rw [ez] at h5
    have hl : ((lawT n z).map fun c => V.str ⟨#[c]⟩) = ((lawT n z).map fun c => (⟨#[c]⟩ : Str)).map V.str := by
      rw [List.map_map]
      rfl
    refine ⟨⟨_, rfl⟩, _, rfl, SX.S [], p, (lawT n z).map fun c => (⟨#[c]⟩ : Str), rfl, rfl, .inl (sq_of ?_), ?_, ?_⟩
    · rw [← hl]
      exact h5
    · have e9 : ((lawT n z).map fun c => (⟨#[c]⟩ : Str)).map (·.length) = List.replicate z 1 := by
        rw [List.map_map, List.eq_replicate_iff]
        refine ⟨by rw [List.length_map, lawT_len], fun b hb => ?_⟩
        obtain ⟨c, _, rfl⟩ := List.mem_map.mp hb
        rfl
      rw [e9, List.sum_replicate_nat, List.length_map, lawT_len]
      show z * 1 + z * 0 ≤ _
      omega
    · rw [join_ones]
      exact q _ (x2.trans e5)
theorem ec_text {σ : L2.St} {H : Hp} {ta tb : TE} {E : XK} {n m : Int} (ha : Ev ta σ H (.int n)) (hb : Ev tb σ H (.int m)) (h0 : 0 ≤ m) (h1 : m ≤ 1000) : Ev (tCall (sp__law_text K) [] E (tCons ta (tCons tb tNil))) σ H (.str (SX.S (lawT n m.toNat))) :=
  ev_call (ea_cons ha (ea_cons hb ea_nil)) fun H1 e Q q E => ⟨n, m.toNat, by rw [Int.toNat_of_nonneg h0]; rfl, by omega, q⟩
theorem ok__law_value (D : Dn K mg "_law_value" s__law_value ["number"]) (c__law_text : C8.Cal P w K mg base 1 "_law_text" (sp__law_text K) []) (z_int : mg "int" = none) :
    C8.Cal P w K mg base 2 "_law_value" (sp__law_value K) [] := by
  refine cal_of D sc__law_value (fun vs H Q E h => ?_) (fun f cdv A outer s H vs Q E hr h => ?_)
  · obtain ⟨_, rfl, _⟩ := h
    rfl
  refine ⟨_, (pss_cons (ps_set (i := 1) sc__law_value.nd rfl (.inl rfl) (pe_op op_fdiv (pe_callTy call_int1 (by rfl) z_int (by decide +kernel) (pa_cons (pv 0) pa_nil)) pe_int))
    (pss_cons (ps_set (i := 2) sc__law_value.nd rfl (.inl rfl) (pe_op op_mod (pe_callTy call_int1 (by rfl) z_int (by decide +kernel) (pa_cons (pv 0) pa_nil)) pe_int))
    (pss_cons (ps_if (pt_cmpR op_eq (pv 2) pe_int (nomark _))
      (pss_one (ps_ret pe_non))
      pss_nil)
    (pss_cons (ps_if (pt_cmpR op_eq (pv 2) pe_int (nomark _))
      (pss_one (ps_ret (pe_cmpR op_eq (pe_op op_mod (pv 1) pe_int) pe_int (nomark _))))
      pss_nil)
    (pss_cons (ps_if (pt_cmpR op_eq (pv 2) pe_int (nomark _))
      (pss_one (ps_ret (pe_op op_sub (pe_op op_mod (pe_callTy call_int1 (by rfl) z_int (by decide +kernel) (pa_cons (pv 1) pa_nil)) pe_int) pe_int)))
      pss_nil)
    (pss_cons (ps_if (pt_cmpR op_eq (pv 2) pe_int (nomark _))
      (pss_one (ps_ret (pe_op op_sub (pe_op op_mod (pe_callTy call_int1 (by rfl) z_int (by decide +kernel) (pa_cons (pv 1) pa_nil)) pe_int) pe_int)))
      pss_nil)
    (pss_cons (ps_if (pt_cmpR op_eq (pv 2) pe_int (nomark _))
      (pss_one (ps_ret (pe_op op_sub (pe_op op_mod (pe_callTy call_int1 (by rfl) z_int (by decide +kernel) (pa_cons (pv 1) pa_nil)) pe_int) pe_int)))
      pss_nil)
    (pss_cons (ps_if (pt_cmpR op_eq (pv 2) pe_int (nomark _))
      (pss_one (ps_ret (pe_op op_sub (pe_op op_mod (pe_callTy call_int1 (by rfl) z_int (by decide +kernel) (pa_cons (pv 1) pa_nil)) pe_int) pe_int)))
      pss_nil)
    (pss_one (ps_ret (C8.pe_c c__law_text hr (by decide) (by rfl) (pa_cons (pe_op op_fdiv (pv 1) pe_int) (pa_cons (pe_op op_mod (pe_callTy call_int1 (by rfl) z_int (by decide +kernel) (pa_cons (pv 1) pa_nil)) pe_int) pa_nil))))))))))))), ?_⟩
  obtain ⟨n, rfl, q⟩ := h
  refine q_asg (v := .int (n / 8)) (by walk_at "ev") fun H1 e1 => ?_
  refine q_asg (v := .int (n % 8)) (by walk_at "ev") fun H2 e2 => ?_
  have x2 : Ex H H2 := e1.trans e2
  refine q_when (b := decide (V.int (n % 8) = V.int 0)) (by walk_at "et") (fun hb H3 e3 => s_ret (v := lawV n) ?_ fun H4 e4 => q H4 ((x2.trans e3).trans e4)) (fun hb H3 e3 => ?_)
  · refine ev_is ev_c ?_
    unfold lawV
    rw [if_pos (V.int.inj (of_decide_eq_true hb))]
  have n0 : ¬ n % 8 = 0 := fun e => of_decide_eq_false hb (by rw [e])
  refine q_when (b := decide (V.int (n % 8) = V.int 1)) (by walk_at "et") (fun hb H4 e4 => s_ret (v := lawV n) ?_ fun H5 e5 => q H5 (((x2.trans e3).trans e4).trans e5)) (fun hb H4 e4 => ?_)
  · refine ev_is (v := .bl (decide (V.int (n / 8 % 2) = V.int 0))) (by walk_at "ev") ?_
    unfold lawV
    rw [if_neg n0, if_pos (V.int.inj (of_decide_eq_true hb)), dec_int]
    congr 1
  have n1 : ¬ n % 8 = 1 := fun e => of_decide_eq_false hb (by rw [e])
  refine q_when (b := decide (V.int (n % 8) = V.int 2)) (by walk_at "et") (fun hb H5 e5 => s_ret (v := lawV n) ?_ fun H6 e6 => q H6 ((((x2.trans e3).trans e4).trans e5).trans e6)) (fun hb H5 e5 => ?_)
  · refine ev_is (v := .int (n / 8 % 3 - 1)) (by walk_at "ev") ?_
    unfold lawV
    rw [if_neg n0, if_neg n1, if_pos (V.int.inj (of_decide_eq_true hb))]
  have n2 : ¬ n % 8 = 2 := fun e => of_decide_eq_false hb (by rw [e])
  refine q_when (b := decide (V.int (n % 8) = V.int 3)) (by walk_at "et") (fun hb H6 e6 => s_ret (v := lawV n) ?_ fun H7 e7 => q H7 (((((x2.trans e3).trans e4).trans e5).trans e6).trans e7)) (fun hb H6 e6 => ?_)
  · refine ev_is (v := .int (n / 8 % 2000000000000001 - 1000000000000000)) (by walk_at "ev") ?_
    unfold lawV
    rw [if_neg n0, if_neg n1, if_neg n2, if_pos (V.int.inj (of_decide_eq_true hb))]
  have n3 : ¬ n % 8 = 3 := fun e => of_decide_eq_false hb (by rw [e])
  refine q_when (b := decide (V.int (n % 8) = V.int 4)) (by walk_at "et") (fun hb H7 e7 => s_ret (v := lawV n) ?_ fun H8 e8 => q H8 ((((((x2.trans e3).trans e4).trans e5).trans e6).trans e7).trans e8)) (fun hb H7 e7 => ?_)
  · refine ev_is (v := .int (n / 8 % 3652059 - 719162)) (by walk_at "ev") ?_
    unfold lawV
    rw [if_neg n0, if_neg n1, if_neg n2, if_neg n3, if_pos (V.int.inj (of_decide_eq_true hb))]
  have n4 : ¬ n % 8 = 4 := fun e => of_decide_eq_false hb (by rw [e])
  refine q_when (b := decide (V.int (n % 8) = V.int 5)) (by walk_at "et") (fun hb H8 e8 => s_ret (v := lawV n) ?_ fun H9 e9 => q H9 (((((((x2.trans e3).trans e4).trans e5).trans e6).trans e7).trans e8).trans e9)) (fun hb H8 e8 => ?_)
  · refine ev_is (v := .int (n / 8 % 40 - 20)) (by walk_at "ev") ?_
    unfold lawV
    rw [if_neg n0, if_neg n1, if_neg n2, if_neg n3, if_neg n4, if_pos (V.int.inj (of_decide_eq_true hb))]
  have n5 : ¬ n % 8 = 5 := fun e => of_decide_eq_false hb (by rw [e])
  refine s_ret (v := lawV n) ?_ fun H9 e9 => q H9 (((((((x2.trans e3).trans e4).trans e5).trans e6).trans e7).trans e8).trans e9)
  refine ev_is (ec_text (n := n / 8 / 13) (m := n / 8 % 13) (by walk_at "ev") (by walk_at "ev") (by omega) (by omega)) ?_
  unfold lawV
  rw [if_neg n0, if_neg n1, if_neg n2, if_neg n3, if_neg n4, if_neg n5]
theorem ec_value {σ : L2.St} {H : Hp} {ta : TE} {E : XK} {n : Int} (ha : Ev ta σ H (.int n)) : Ev (tCall (sp__law_value K) [] E (tCons ta tNil)) σ H (lawV n) :=
  ev_call (ea_cons ha ea_nil) fun H1 e Q q E => ⟨n, rfl, q⟩
end

/-! ### ranks -/
def kr : V → Int
  | .non => 0
  | .bl _ => 1
  | .int _ => 2
  | _ => 3
def payV : V → V
  | .non => .int 0
  | .bl b => .int (if b then 1 else 0)
  | x => x
def rkL (x : V) : List V := [.int (kr x), payV x]
def payD : V → PyData
  | .non => .int 0
  | .bl b => .int (if b then 1 else 0)
  | .int i => .int i
  | .str s => .str s
  | _ => .none
def rkDs (x : V) : List PyData := [.int (kr x), payD x]
def rkD (x : V) : PyData := .tuple (rkDs x)
/-- plain, and its signs are signs -/
inductive Ok : V → Prop where
  | non : Ok .non
  | bl (b : Bool) : Ok (.bl b)
  | int (i : Int) : Ok (.int i)
  | str (s : Str) (h : PyData.strOk s = true) : Ok (.str s)
theorem Ok.pl {x : V} (h : Ok x) : Pl x := by cases h <;> constructor
theorem strOk_S {l : List Nat} (h : ∀ c ∈ l, 32 ≤ c ∧ c ≤ 126) : PyData.strOk (SX.S l) = true := by
  unfold PyData.strOk
  rw [Array.all_eq_true']
  intro c hc
  have := h c (by simpa using hc)
  exact decide_eq_true (by omega)
theorem dp_pay {K : PySem.W.Frag} {H : Hp} {x : V} (h : Ok x) : Dp K H (payV x) (payD x) := by
  cases h with
  | non => exact .int 0
  | bl b => exact .int _
  | int i => exact .int i
  | str s _ => exact .str s
theorem dp_rks {K : PySem.W.Frag} {H : Hp} {x : V} (h : Ok x) : DpAll K H (rkL x) (rkDs x) := .cons (.int _) (.cons (dp_pay h) .nil)
theorem dp_rk {K : PySem.W.Frag} {H : Hp} {x : V} {p : Addr} (h : Ok x) (hp : H p = some (.tup (rkL x))) : Dp K H (.ref p) (rkD x) := .tup (st_of hp) (dp_rks h)
theorem lay_rk {x : V} (h : Ok x) : (rkD x).canLay0 = true := by
  cases h with
  | non => rfl
  | bl b => rfl
  | int i => rfl
  | str s hs =>
    show (true && (PyData.strOk s && true)) = true
    rw [hs]
    rfl
theorem dep_rk {x : V} (h : Ok x) : (rkD x).depth = 1 := by cases h <;> rfl
theorem shaped_rk {x : V} (h : Ok x) : SeqAt.shaped (rkD x) = true := by
  unfold SeqAt.shaped
  rw [lay_rk h, dep_rk h]
  rfl
theorem noL_rk {x : V} (h : Ok x) : noL (rkD x) = true := by cases h <;> rfl
theorem ord_rk {x y : V} (hx : Ok x) (hy : Ok y) : ordD (rkD x) (rkD y) = true := by
  have step : ∀ (a b : Int) (p q : PyData), (a = b → ordD p q = true) → ordD (.tuple [.int a, p]) (.tuple [.int b, q]) = true := by
    intro a b p q h
    rw [ordD, ordDs]
    split
    · rename_i e
      rw [ordDs]
      split
      · rfl
      · exact h (beq_iff_eq.mp (show (a == b) = true from e))
    · rfl
  refine step _ _ _ _ fun e => ?_
  cases hx <;> cases hy <;> first | rfl | (simp [kr] at e)
theorem lays_rk : ∀ {xs : List V}, (∀ x ∈ xs, Ok x) → PyData.canLayAll0 (xs.map rkD) = true
  | [], _ => rfl
  | x :: xs, h => by
    show ((rkD x).canLay0 && PyData.canLayAll0 (xs.map rkD)) = true
    rw [lay_rk (h x (List.mem_cons_self ..)), lays_rk fun y hy => h y (List.mem_cons_of_mem _ hy)]
    rfl
theorem deps_rk : ∀ {xs : List V}, (∀ x ∈ xs, Ok x) → PyData.depthAll (xs.map rkD) ≤ 1
  | [], _ => by show 0 ≤ 1; decide
  | x :: xs, h => by
    show max (rkD x).depth (PyData.depthAll (xs.map rkD)) ≤ 1
    rw [dep_rk (h x (List.mem_cons_self ..))]
    have := deps_rk fun y hy => h y (List.mem_cons_of_mem _ hy)
    omega
theorem shaped_row {xs : List V} (h : ∀ x ∈ xs, Ok x) : SeqAt.shaped (.tuple (xs.map rkD)) = true := by
  have hd := deps_rk h
  show (PyData.canLayAll0 (xs.map rkD) && decide (PyData.depthAll (xs.map rkD) + 1 ≤ 64)) = true
  rw [lays_rk h, decide_eq_true (by omega)]
  rfl
theorem ords_rk : ∀ {xs ys : List V}, (∀ x ∈ xs, Ok x) → (∀ y ∈ ys, Ok y) → ordDs (xs.map rkD) (ys.map rkD) = true
  | [], _, _, _ => by rw [List.map_nil, ordDs]
  | _ :: _, [], _, _ => rfl
  | x :: xs, y :: ys, h1, h2 => by
    rw [List.map_cons, List.map_cons, ordDs]
    split
    · exact ords_rk (fun z hz => h1 z (List.mem_cons_of_mem _ hz)) (fun z hz => h2 z (List.mem_cons_of_mem _ hz))
    · exact ord_rk (h1 x (List.mem_cons_self ..)) (h2 y (List.mem_cons_self ..))
def sp_kind_rank (K : PySem.W.Frag) : Sp := fun vs H Q _ => ∃ x : V, vs = [x] ∧ Ok x ∧ ∀ H', Ex H H' → Q (.int (kr x)) H'
def sp_is_integer (K : PySem.W.Frag) : Sp := fun vs H Q _ => ∃ x : V, vs = [x] ∧ Pl x ∧ ∀ H', Ex H H' → Q (.bl (isInt x)) H'
def sp__law_is_integer (K : PySem.W.Frag) : Sp := fun vs H Q _ => ∃ x : V, vs = [x] ∧ Pl x ∧ ∀ H', Ex H H' → Q (.bl (isInt x)) H'
def sp_rank (K : PySem.W.Frag) : Sp := fun vs H Q _ => ∃ x : V, vs = [x] ∧ Ok x ∧ ∀ p H', H p = none → Ex H H' → H' p = some (.tup (rkL x)) → Q (.ref p) H'
def sp__law_rank (K : PySem.W.Frag) : Sp := fun vs H Q _ => ∃ x : V, vs = [x] ∧ Ok x ∧ ∀ p H', H p = none → Ex H H' → H' p = some (.tup (rkL x)) → Q (.ref p) H'
def sp_same (K : PySem.W.Frag) : Sp := fun vs H Q _ => ∃ x y : V, vs = [x, y] ∧ Ok x ∧ Ok y ∧ ∀ H', Ex H H' → Q (.bl (PyData.eqv (rkD x) (rkD y))) H'
def sp_before (K : PySem.W.Frag) : Sp := fun vs H Q _ => ∃ x y : V, vs = [x, y] ∧ Ok x ∧ Ok y ∧ ∀ H', Ex H H' → Q (.bl (ltD (rkD x) (rkD y))) H'
section
variable {P : Program} {w : World} {K : PySem.W.Frag} {mg : Str → Option Value} {base : Heap}
section
variable {σ : L2.St} {H : Hp} {ta tb tc : TE} {E : XK} {x y : V}
theorem ec_isint0 (ha : Ev ta σ H x) (h : Pl x) : Ev (tCall (sp_is_integer K) [] E (tCons ta tNil)) σ H (.bl (isInt x)) := ev_call (ea_cons ha ea_nil) fun H1 e Q q E => ⟨x, rfl, h, q⟩
theorem ec_isint (ha : Ev ta σ H x) (h : Pl x) : Ev (tCall (sp__law_is_integer K) [] E (tCons ta tNil)) σ H (.bl (isInt x)) := ev_call (ea_cons ha ea_nil) fun H1 e Q q E => ⟨x, rfl, h, q⟩
theorem ec_kr (ha : Ev ta σ H x) (h : Ok x) : Ev (tCall (sp_kind_rank K) [] E (tCons ta tNil)) σ H (.int (kr x)) := ev_call (ea_cons ha ea_nil) fun H1 e Q q E => ⟨x, rfl, h, q⟩
theorem ec_rank (ha : Ev ta σ H x) (h : Ok x) : EvU (tCall (sp_rank K) [] E (tCons ta tNil)) σ H (rkL x) := eu_call (ea_cons ha ea_nil) fun H1 e Q q E => ⟨x, rfl, h, q⟩
theorem ec_lrank (ha : Ev ta σ H x) (h : Ok x) : EvU (tCall (sp__law_rank K) [] E (tCons ta tNil)) σ H (rkL x) := eu_call (ea_cons ha ea_nil) fun H1 e Q q E => ⟨x, rfl, h, q⟩
theorem ud_rk (h : EvU ta σ H (rkL x)) (hx : Ok x) : EvUD K ta σ H (rkDs x) := fun H1 e Q q => h H1 e _ fun p H2 hp e2 h2 => q p H2 _ hp e2 h2 (dp_rks hx)
theorem ed_rk (h : EvU ta σ H (rkL x)) (hx : Ok x) : EvD K ta σ H (rkD x) := ed_tupU (ud_rk h hx)
theorem ec_same (ha : Ev ta σ H x) (hb : Ev tb σ H y) (h1 : Ok x) (h2 : Ok y) : Ev (tCall (sp_same K) [] E (tCons ta (tCons tb tNil))) σ H (.bl (PyData.eqv (rkD x) (rkD y))) := ev_call (ea_cons ha (ea_cons hb ea_nil)) fun H1 e Q q E => ⟨x, y, rfl, h1, h2, q⟩
theorem ec_before (ha : Ev ta σ H x) (hb : Ev tb σ H y) (h1 : Ok x) (h2 : Ok y) : Ev (tCall (sp_before K) [] E (tCons ta (tCons tb tNil))) σ H (.bl (ltD (rkD x) (rkD y))) := ev_call (ea_cons ha (ea_cons hb ea_nil)) fun H1 e Q q E => ⟨x, y, rfl, h1, h2, q⟩
end
theorem ok_kind_rank (D : Dn K mg "kind_rank" s_kind_rank ["value"]) (z_bool : mg "bool" = none) (z_int : mg "int" = none) (z_isinstance : mg "isinstance" = none) :
    C8.Cal P w K mg base 1 "kind_rank" (sp_kind_rank K) [] := by
  refine cal_of D sc_kind_rank (fun vs H Q E h => ?_) (fun f cdv A outer s H vs Q E hr h => ?_)
  · obtain ⟨_, rfl, _⟩ := h
    rfl
  refine ⟨_, (pss_cons (ps_if (pt_cmpR op_isN (pv 0) pe_non (nomark _))
      (pss_one (ps_ret pe_int))
      pss_nil)
    (pss_cons (ps_if (pt_val (pe_callB call_isi (by rfl) z_isinstance (by decide +kernel) (pa_cons (pv 0) (pa_cons (pe_bltn (v := .ty "bool") (u := .type "bool") rfl z_bool (by decide +kernel) rfl) pa_nil))))
      (pss_one (ps_ret pe_int))
      pss_nil)
    (pss_cons (ps_if (pt_val (pe_callB call_isi (by rfl) z_isinstance (by decide +kernel) (pa_cons (pv 0) (pa_cons (pe_bltn (v := .ty "int") (u := .type "int") rfl z_int (by decide +kernel) rfl) pa_nil))))
      (pss_one (ps_ret pe_int))
      pss_nil)
    (pss_one (ps_ret pe_int))))), ?_⟩
  obtain ⟨x, rfl, hx, q⟩ := h
  refine q_when (b := decide (x = .non)) (by walk_at "et") (fun hb H1 e1 => s_ret (v := .int (kr x)) ?_ fun H2 e2 => q _ (e1.trans e2)) fun hb H1 e1 => ?_
  · rw [of_decide_eq_true hb]
    exact ev_c
  cases hx with
  | non => exact absurd hb (by decide)
  | bl b => exact q_when (b := true) (et_B (ev_isiP (ev_var rfl) (.bl b) (by show kitB "bool" "bool" = some true; decide +kernel))) (fun _ H2 e2 => s_ret ev_c fun H3 e3 => q _ ((e1.trans e2).trans e3)) fun hb => nomatch hb
  | int i => exact q_when (b := false) (et_B (ev_isiP (ev_var rfl) (.int i) (by show kitB "int" "bool" = some false; decide +kernel))) (fun hb => nomatch hb) fun _ H2 e2 => q_when (b := true) (et_B (ev_isiP (ev_var rfl) (.int i) (by show kitB "int" "int" = some true; decide +kernel))) (fun _ H3 e3 => s_ret ev_c fun H4 e4 => q _ (((e1.trans e2).trans e3).trans e4)) fun hb => nomatch hb
  | str s hs => exact q_when (b := false) (et_B (ev_isiP (ev_var rfl) (.str s) (by show kitB "str" "bool" = some false; decide +kernel))) (fun hb => nomatch hb) fun _ H2 e2 => q_when (b := false) (et_B (ev_isiP (ev_var rfl) (.str s) (by show kitB "str" "int" = some false; decide +kernel))) (fun hb => nomatch hb) fun _ H3 e3 => s_ret ev_c fun H4 e4 => q _ (((e1.trans e2).trans e3).trans e4)
theorem ok_is_integer (D : Dn K mg "is_integer" s_is_integer ["value"]) (z_bool : mg "bool" = none) (z_int : mg "int" = none) (z_isinstance : mg "isinstance" = none) :
    C8.Cal P w K mg base 1 "is_integer" (sp_is_integer K) [] := by
  refine cal_of D sc_is_integer (fun vs H Q E h => ?_) (fun f cdv A outer s H vs Q E hr h => ?_)
  · obtain ⟨_, rfl, _⟩ := h
    rfl
  refine ⟨_, (pss_one (ps_ret (pe_and (pe_callB call_isi (by rfl) z_isinstance (by decide +kernel) (pa_cons (pv 0) (pa_cons (pe_bltn (v := .ty "int") (u := .type "int") rfl z_int (by decide +kernel) rfl) pa_nil))) (pe_one (pe_not (pe_callB call_isi (by rfl) z_isinstance (by decide +kernel) (pa_cons (pv 0) (pa_cons (pe_bltn (v := .ty "bool") (u := .type "bool") rfl z_bool (by decide +kernel) rfl) pa_nil)))))))), ?_⟩
  obtain ⟨x, rfl, hx, q⟩ := h
  exact s_ret (ev_isInt (ev_var rfl) (ev_var rfl) hx) fun H2 e2 => q _ e2
theorem ok__law_is_integer (D : Dn K mg "_law_is_integer" s__law_is_integer ["value"]) (z_bool : mg "bool" = none) (z_int : mg "int" = none) (z_isinstance : mg "isinstance" = none) :
    C8.Cal P w K mg base 1 "_law_is_integer" (sp__law_is_integer K) [] := by
  refine cal_of D sc__law_is_integer (fun vs H Q E h => ?_) (fun f cdv A outer s H vs Q E hr h => ?_)
  · obtain ⟨_, rfl, _⟩ := h
    rfl
  refine ⟨_, (pss_one (ps_ret (pe_and (pe_callB call_isi (by rfl) z_isinstance (by decide +kernel) (pa_cons (pv 0) (pa_cons (pe_bltn (v := .ty "int") (u := .type "int") rfl z_int (by decide +kernel) rfl) pa_nil))) (pe_one (pe_not (pe_callB call_isi (by rfl) z_isinstance (by decide +kernel) (pa_cons (pv 0) (pa_cons (pe_bltn (v := .ty "bool") (u := .type "bool") rfl z_bool (by decide +kernel) rfl) pa_nil)))))))), ?_⟩
  obtain ⟨x, rfl, hx, q⟩ := h
  exact s_ret (ev_isInt (ev_var rfl) (ev_var rfl) hx) fun H2 e2 => q _ e2
theorem ok_rank (D : Dn K mg "rank" s_rank ["value"]) (c_kind_rank : C8.Cal P w K mg base 1 "kind_rank" (sp_kind_rank K) []) (z_int : mg "int" = none) :
    C8.Cal P w K mg base 2 "rank" (sp_rank K) [] := by
  refine cal_of D sc_rank (fun vs H Q E h => ?_) (fun f cdv A outer s H vs Q E hr h => ?_)
  · obtain ⟨_, rfl, _⟩ := h
    rfl
  refine ⟨_, (pss_cons (ps_set (i := 1) sc_rank.nd rfl (.inl rfl) (C8.pe_c c_kind_rank hr (by decide) (by rfl) (pa_cons (pv 0) pa_nil)))
    (pss_cons (ps_if (pt_cmpR op_eq (pv 1) pe_int (nomark _))
      (pss_one (ps_ret (pe_tup (pa_cons pe_int (pa_cons pe_int pa_nil)))))
      pss_nil)
    (pss_cons (ps_if (pt_cmpR op_eq (pv 1) pe_int (nomark _))
      (pss_one (ps_ret (pe_tup (pa_cons pe_int (pa_cons (pe_callTy call_int1 (by rfl) z_int (by decide +kernel) (pa_cons (pv 0) pa_nil)) pa_nil)))))
      pss_nil)
    (pss_one (ps_ret (pe_tup (pa_cons (pv 1) (pa_cons (pv 0) pa_nil)))))))), ?_⟩
  obtain ⟨x, rfl, hx, q⟩ := h
  refine q_asg (ec_kr (ev_var rfl) hx) fun H1 e1 => ?_
  refine q_when (b := decide (V.int (kr x) = V.int 0)) (by walk_at "et") (fun hb H2 e2 => s_retU (xs := rkL x) ?_ fun p H3 hp e3 h3 => q p H3 (fresh_back (e1.trans e2) hp) ((e1.trans e2).trans e3) h3) fun hb H2 e2 => ?_
  · cases hx with
    | non => exact eu_tup (ea_cons ev_c (ea_cons ev_c ea_nil)) (by show 2 ≤ 100000; decide)
    | _ => simp [kr] at hb
  refine q_when (b := decide (V.int (kr x) = V.int 1)) (by walk_at "et") (fun hb H3 e3 => s_retU (xs := rkL x) ?_ fun p H4 hp e4 h4 => q p H4 (fresh_back ((e1.trans e2).trans e3) hp) (((e1.trans e2).trans e3).trans e4) h4) fun hb H3 e3 => s_retU (xs := rkL x) ?_ fun p H4 hp e4 h4 => q p H4 (fresh_back ((e1.trans e2).trans e3) hp) (((e1.trans e2).trans e3).trans e4) h4
  · cases hx with
    | bl b => exact eu_tup (ea_cons ev_c (ea_cons (ev_intB (ev_var rfl)) ea_nil)) (by show 2 ≤ 100000; decide)
    | _ => simp [kr] at hb
  · cases hx with
    | non => exact absurd ‹decide (V.int (kr .non) = V.int 0) = false› (by decide)
    | bl b => exact absurd ‹decide (V.int (kr (.bl b)) = V.int 1) = false› (by show ¬ decide (V.int 1 = V.int 1) = false; decide)
    | int i => exact eu_tup (ea_cons (ev_var rfl) (ea_cons (ev_var rfl) ea_nil)) (by show 2 ≤ 100000; decide)
    | str s hs => exact eu_tup (ea_cons (ev_var rfl) (ea_cons (ev_var rfl) ea_nil)) (by show 2 ≤ 100000; decide)
theorem ok__law_rank (D : Dn K mg "_law_rank" s__law_rank ["value"]) (z_isinstance : mg "isinstance" = none) (z_str : mg "str" = none) :
    C8.Cal P w K mg base 1 "_law_rank" (sp__law_rank K) [] := by
  refine cal_of D sc__law_rank (fun vs H Q E h => ?_) (fun f cdv A outer s H vs Q E hr h => ?_)
  · obtain ⟨_, rfl, _⟩ := h
    rfl
  refine ⟨_, (pss_cons (ps_if (pt_cmpR op_isN (pv 0) pe_non (nomark _))
      (pss_one (ps_ret (pe_tup (pa_cons pe_int (pa_cons pe_int pa_nil)))))
      pss_nil)
    (pss_cons (ps_if (pt_cmpR op_isTF (pv 0) pe_bl (nomark _))
      (pss_one (ps_ret (pe_tup (pa_cons pe_int (pa_cons pe_int pa_nil)))))
      pss_nil)
    (pss_cons (ps_if (pt_cmpR op_isTF (pv 0) pe_bl (nomark _))
      (pss_one (ps_ret (pe_tup (pa_cons pe_int (pa_cons pe_int pa_nil)))))
      pss_nil)
    (pss_cons (ps_if (pt_val (pe_callB call_isi (by rfl) z_isinstance (by decide +kernel) (pa_cons (pv 0) (pa_cons (pe_bltn (v := .ty "str") (u := .type "str") rfl z_str (by decide +kernel) rfl) pa_nil))))
      (pss_one (ps_ret (pe_tup (pa_cons pe_int (pa_cons (pv 0) pa_nil)))))
      pss_nil)
    (pss_one (ps_ret (pe_tup (pa_cons pe_int (pa_cons (pv 0) pa_nil))))))))), ?_⟩
  obtain ⟨x, rfl, hx, q⟩ := h
  have one : ∀ {H0 H1 : Hp} {σ : L2.St} {ta tb : TE}, Ex H H0 → Ev ta σ H0 (.int (kr x)) → Ev tb σ H0 (payV x) → tRet (tTup (tCons ta (tCons tb tNil))) { nx := fun _ H' => Q .non H', rt := Q } σ H0 := fun {H0 H1 σ ta tb} e0 ha hb =>
    s_retU (xs := rkL x) (eu_tup (ea_cons ha (ea_cons hb ea_nil)) (by show 2 ≤ 100000; decide)) fun p H3 hp e3 h3 => q p H3 (fresh_back e0 hp) (e0.trans e3) h3
  cases hx with
  | non => exact q_when (b := true) (et_test (ev_op (ev_var rfl) ev_c rv_isN)) (fun _ H1 e1 => one (H1 := H) e1 ev_c ev_c) fun hb => nomatch hb
  | bl b =>
    refine q_when (b := false) (et_test (ev_op (ev_var rfl) ev_c rv_isN)) (fun hb => nomatch hb) fun _ H1 e1 => ?_
    refine q_when (b := decide (V.bl b = V.bl true)) (et_test (ev_op (ev_var rfl) ev_c rv_isT)) (fun hb H2 e2 => one (H1 := H) (e1.trans e2) ev_c ?_) fun hb H2 e2 => ?_
    · rw [V.bl.inj (of_decide_eq_true hb)]
      exact ev_c
    have hf : b = false := by
      cases b with
      | true => exact absurd hb (by decide)
      | false => rfl
    subst hf
    exact q_when (b := true) (et_test (ev_op (ev_var rfl) ev_c rv_isT)) (fun _ H3 e3 => one (H1 := H) ((e1.trans e2).trans e3) ev_c ev_c) fun hb => nomatch hb
  | int i =>
    refine q_when (b := false) (et_test (ev_op (ev_var rfl) ev_c rv_isN)) (fun hb => nomatch hb) fun _ H1 e1 => ?_
    refine q_when (b := false) (et_test (ev_op (ev_var rfl) ev_c rv_isT)) (fun hb => nomatch hb) fun _ H2 e2 => ?_
    refine q_when (b := false) (et_test (ev_op (ev_var rfl) ev_c rv_isT)) (fun hb => nomatch hb) fun _ H3 e3 => ?_
    refine q_when (b := false) (et_B (ev_isiP (ev_var rfl) (.int i) (by show kitB "int" "str" = some false; decide +kernel))) (fun hb => nomatch hb) fun _ H4 e4 => one (H1 := H) (((e1.trans e2).trans e3).trans e4) ev_c (ev_var rfl)
  | str s hs =>
    refine q_when (b := false) (et_test (ev_op (ev_var rfl) ev_c rv_isN)) (fun hb => nomatch hb) fun _ H1 e1 => ?_
    refine q_when (b := false) (et_test (ev_op (ev_var rfl) ev_c rv_isT)) (fun hb => nomatch hb) fun _ H2 e2 => ?_
    refine q_when (b := false) (et_test (ev_op (ev_var rfl) ev_c rv_isT)) (fun hb => nomatch hb) fun _ H3 e3 => ?_
    refine q_when (b := true) (et_B (ev_isiP (ev_var rfl) (.str s) (by show kitB "str" "str" = some true; decide +kernel))) (fun _ H4 e4 => one (H1 := H) (((e1.trans e2).trans e3).trans e4) ev_c (ev_var rfl)) fun hb => nomatch hb
theorem ok_same (D : Dn K mg "same" s_same ["first", "second"]) (c_rank : C8.Cal P w K mg base 2 "rank" (sp_rank K) []) :
    C8.Cal P w K mg base 3 "same" (sp_same K) [] := by
  refine cal_of D sc_same (fun vs H Q E h => ?_) (fun f cdv A outer s H vs Q E hr h => ?_)
  · obtain ⟨_, _, rfl, _⟩ := h
    rfl
  refine ⟨_, (pss_one (ps_ret (pe_cmpR (op_eqD (hu64 hr)) (C8.pe_c c_rank hr (by decide) (by rfl) (pa_cons (pv 0) pa_nil)) (C8.pe_c c_rank hr (by decide) (by rfl) (pa_cons (pv 1) pa_nil)) (nomark _)))), ?_⟩
  obtain ⟨x, y, rfl, hx, hy, q⟩ := h
  exact s_ret (ev_eqD (ed_rk (ec_rank (ev_var rfl) hx) hx) (ed_rk (ec_rank (ev_var rfl) hy) hy) (shaped_rk hx) (shaped_rk hy)) fun H2 e2 => q _ e2
theorem ok_before (D : Dn K mg "before" s_before ["first", "second"]) (c_rank : C8.Cal P w K mg base 2 "rank" (sp_rank K) []) :
    C8.Cal P w K mg base 3 "before" (sp_before K) [] := by
  refine cal_of D sc_before (fun vs H Q E h => ?_) (fun f cdv A outer s H vs Q E hr h => ?_)
  · obtain ⟨_, _, rfl, _⟩ := h
    rfl
  refine ⟨_, (pss_one (ps_ret (pe_cmpR (op_ltD (hu64 hr)) (C8.pe_c c_rank hr (by decide) (by rfl) (pa_cons (pv 0) pa_nil)) (C8.pe_c c_rank hr (by decide) (by rfl) (pa_cons (pv 1) pa_nil)) (nomark _)))), ?_⟩
  obtain ⟨x, y, rfl, hx, hy, q⟩ := h
  exact s_ret (ev_ltD (ed_rk (ec_rank (ev_var rfl) hx) hx) (ed_rk (ec_rank (ev_var rfl) hy) hy) (shaped_rk hx) (shaped_rk hy) (ord_rk hx hy) (by rw [dep_rk hx]; decide)) fun H2 e2 => q _ e2
end

/-! ### the program's calendar -/
def dayV (y m d : Int) : V := if isD y m d then .int (dayN y m d) else .non
def tri (t : Int × Int × Int) : List V := [.int t.1, .int t.2.1, .int t.2.2]
def sp__is_leap (K : PySem.W.Frag) : Sp := fun vs H Q _ => ∃ y : Int, vs = [.int y] ∧ ∀ H', Ex H H' → Q (.bl (leap y)) H'
def sp_month_length (K : PySem.W.Frag) : Sp := fun vs H Q _ => ∃ y m : Int, vs = [.int y, .int m] ∧ (1 ≤ m ∧ m ≤ 12) ∧ ∀ H', Ex H H' → Q (.int (mlen y m)) H'
def sp_day_of (K : PySem.W.Frag) : Sp := fun vs H Q _ => ∃ y m d : Int, vs = [.int y, .int m, .int d] ∧ ∀ H', Ex H H' → Q (dayV y m d) H'
def sp_date_of (K : PySem.W.Frag) : Sp := fun vs H Q _ => ∃ d : Int, vs = [.int d] ∧ (-719162 ≤ d ∧ d ≤ 2932896) ∧ ∀ p H', H p = none → Ex H H' → H' p = some (.tup (tri (dt d))) → Q (.ref p) H'
section
variable {P : Program} {w : World} {K : PySem.W.Frag} {mg : Str → Option Value} {base : Heap}
section
variable {σ : L2.St} {H : Hp} {ta tb tc : TE} {E : XK} {y m d : Int}
theorem ec_leap (ha : Ev ta σ H (.int y)) : Ev (tCall (sp__is_leap K) [] E (tCons ta tNil)) σ H (.bl (leap y)) := ev_call (ea_cons ha ea_nil) fun H1 e Q q E => ⟨y, rfl, q⟩
theorem ec_mlen (ha : Ev ta σ H (.int y)) (hb : Ev tb σ H (.int m)) (h : 1 ≤ m ∧ m ≤ 12) : Ev (tCall (sp_month_length K) [] E (tCons ta (tCons tb tNil))) σ H (.int (mlen y m)) := ev_call (ea_cons ha (ea_cons hb ea_nil)) fun H1 e Q q E => ⟨y, m, rfl, h, q⟩
theorem ec_day (ha : Ev ta σ H (.int y)) (hb : Ev tb σ H (.int m)) (hc : Ev tc σ H (.int d)) : Ev (tCall (sp_day_of K) [] E (tCons ta (tCons tb (tCons tc tNil)))) σ H (dayV y m d) := ev_call (ea_cons ha (ea_cons hb (ea_cons hc ea_nil))) fun H1 e Q q E => ⟨y, m, d, rfl, q⟩
theorem ec_date (ha : Ev ta σ H (.int d)) (h : -719162 ≤ d ∧ d ≤ 2932896) : EvU (tCall (sp_date_of K) [] E (tCons ta tNil)) σ H (tri (dt d)) := eu_call (ea_cons ha ea_nil) fun H1 e Q q E => ⟨d, rfl, h, q⟩
end
theorem ok__is_leap (D : Dn K mg "_is_leap" s__is_leap ["year"]) :
    C8.Cal P w K mg base 1 "_is_leap" (sp__is_leap K) [] := by
  refine cal_of D sc__is_leap (fun vs H Q E h => ?_) (fun f cdv A outer s H vs Q E hr h => ?_)
  · obtain ⟨_, rfl, _⟩ := h
    rfl
  refine ⟨_, (pss_one (ps_ret (pe_and (pe_cmpR op_eq (pe_op op_mod (pv 0) pe_int) pe_int (nomark _)) (pe_one (pe_or (pe_cmpR op_ne (pe_op op_mod (pv 0) pe_int) pe_int (nomark _)) (pe_one (pe_cmpR op_eq (pe_op op_mod (pv 0) pe_int) pe_int (nomark _)))))))), ?_⟩
  obtain ⟨y, rfl, q⟩ := h
  refine s_ret (v := .bl (leap y)) ?_ fun H2 e2 => q _ e2
  refine ev_is (v := .bl (decide (V.int (y % 4) = V.int 0) && ((!decide (V.int (y % 100) = V.int 0)) || decide (V.int (y % 400) = V.int 0)))) (by walk_at "ev") ?_
  unfold leap
  simp only [V.int.injEq, decide_not, ne_eq]
theorem ok_month_length (D : Dn K mg "month_length" s_month_length ["year", "month"]) (c__is_leap : C8.Cal P w K mg base 1 "_is_leap" (sp__is_leap K) []) {p__MONTHS : Addr} (g__MONTHS : ∃ u, mg "_MONTHS" = some u ∧ RelV (.ref p__MONTHS) u) (h__MONTHS : ∀ H : Hp, SqT K H p__MONTHS (monthsL.map V.int)) :
    C8.Cal P w K mg base 2 "month_length" (sp_month_length K) [] := by
  refine cal_of D sc_month_length (fun vs H Q E h => ?_) (fun f cdv A outer s H vs Q E hr h => ?_)
  · obtain ⟨_, _, rfl, _⟩ := h
    rfl
  refine ⟨_, (pss_cons (ps_if (PW.pt (pw_and (pt_cmpR op_eq (pv 1) pe_int (nomark _)) (pw_and1 (pt_val (C8.pe_c c__is_leap hr (by decide) (by rfl) (pa_cons (pv 0) pa_nil))))))
      (pss_one (ps_ret pe_int))
      pss_nil)
    (pss_one (ps_ret (pe_ix ix_tup (C8.pe_gc rfl g__MONTHS) (pe_op op_sub (pv 1) pe_int) (fun _ _ => rfl))))), ?_⟩
  obtain ⟨y, m, rfl, hm, q⟩ := h
  refine q_when (b := decide (V.int m = V.int 2) && leap y) (et_and (by walk_at "et") fun _ => et_B (ec_leap (ev_var rfl))) (fun hb H1 e1 => s_ret (v := .int (mlen y m)) ?_ fun H2 e2 => q _ (e1.trans e2)) fun hb H1 e1 => s_ret (v := .int (mlen y m)) ?_ fun H2 e2 => q _ (e1.trans e2)
  · refine ev_is ev_c ?_
    rw [Bool.and_eq_true, decide_eq_true_eq] at hb
    unfold mlen
    rw [if_pos ⟨V.int.inj hb.1, hb.2⟩]
  · have nb : ¬ (m = 2 ∧ leap y = true) := fun z => by
      rw [z.2, decide_eq_true (by rw [z.1])] at hb
      cases hb
    obtain ⟨u, g1, g2⟩ := g__MONTHS
    refine ev_op ev_c (ev_op (ev_var rfl) ev_c rv_I0) (rv_ixT (h__MONTHS H1) ?_)
    have e : m - 1 = (((m - 1).toNat : Nat) : Int) := by omega
    unfold mlen
    rw [if_neg nb, e]
    refine atI_nat ?_
    rw [List.getElem?_map, Int.toNat_natCast]
    have hl : (m - 1).toNat < monthsL.length := by show _ < 12; omega
    rw [List.getElem?_eq_getElem hl, List.getD_eq_getElem?_getD, List.getElem?_eq_getElem hl]
    rfl
theorem ok_day_of (D : Dn K mg "day_of" s_day_of ["year", "month", "date"]) (c_month_length : C8.Cal P w K mg base 2 "month_length" (sp_month_length K) []) (z_range : mg "range" = none) (g_FIRST_DAY : ∃ u, mg "FIRST_DAY" = some u ∧ RelV (.int (-719162)) u) (g__DAYS_OF_YEAR : ∃ u, mg "_DAYS_OF_YEAR" = some u ∧ RelV (.int (365)) u) (g__LAST_YEAR : ∃ u, mg "_LAST_YEAR" = some u ∧ RelV (.int (9999)) u) :
    C8.Cal P w K mg base 3 "day_of" (sp_day_of K) [] := by
  refine cal_of D sc_day_of (fun vs H Q E h => ?_) (fun f cdv A outer s H vs Q E hr h => ?_)
  · obtain ⟨_, _, _, rfl, _⟩ := h
    rfl
  refine ⟨_, (pss_cons (ps_if (pt_not (PW.pt (pw_and (pt_chain op_le op_le pe_int (pv 0) (C8.pe_gc rfl g__LAST_YEAR)) (pw_and1 (pt_chain op_le op_le pe_int (pv 1) pe_int)))))
      (pss_one (ps_ret pe_non))
      pss_nil)
    (pss_cons (ps_if (pt_not (pt_chain op_le op_le pe_int (pv 2) (C8.pe_c c_month_length hr (by decide) (by rfl) (pa_cons (pv 0) (pa_cons (pv 1) pa_nil)))))
      (pss_one (ps_ret pe_non))
      pss_nil)
    (pss_cons (ps_set (i := 3) sc_day_of.nd rfl (.inl rfl) (pe_op op_sub (pv 0) pe_int))
    (pss_cons (ps_set (i := 4) sc_day_of.nd rfl (.inl rfl) (pe_op op_add (pe_op op_sub (pe_op op_add (pe_op op_mul (C8.pe_gc rfl g__DAYS_OF_YEAR) (pv 3)) (pe_op op_fdiv (pv 3) pe_int)) (pe_op op_fdiv (pv 3) pe_int)) (pe_op op_fdiv (pv 3) pe_int)))
    (pss_cons (ps_for PassesOwn.never rfl (pi_range2 rfl z_range (pa_cons pe_int (pa_cons (pv 1) pa_nil))) (pg_name (i := 5) sc_day_of.nd rfl (.inl rfl))
      (pss_one (ps_aug (i := 4) sc_day_of.nd rfl (.inl rfl) (C8.pe_c c_month_length hr (by decide) (by rfl) (pa_cons (pv 0) (pa_cons (pv 5) pa_nil))) ip_add)))
    (pss_one (ps_ret (pe_op op_sub (pe_op op_add (pe_op op_add (C8.pe_gc rfl g_FIRST_DAY) (pv 4)) (pv 2)) pe_int)))))))), ?_⟩
  obtain ⟨y, m, d, rfl, q⟩ := h
  refine q_when (b := !((decide (1 ≤ y) && decide (y ≤ 9999)) && (decide (1 ≤ m) && decide (m ≤ 12)))) ?_ (fun hb H1 e1 => s_ret (v := dayV y m d) ?_ fun H2 e2 => q _ (e1.trans e2)) fun hb H1 e1 => ?_
  · exact et_not (et_and (et_test (ev_chain ev_c (ev_var rfl) rv_I0 (fun _ => ev_c) (fun _ => rv_I0))) fun _ => et_test (ev_chain ev_c (ev_var rfl) rv_I0 (fun _ => ev_c) (fun _ => rv_I0)))
  · refine ev_is ev_c ?_
    unfold dayV
    rw [if_neg]
    intro z
    obtain ⟨⟨a1, a2⟩, ⟨a3, a4⟩, _⟩ := z
    rw [decide_eq_true a1, decide_eq_true a2, decide_eq_true a3, decide_eq_true a4] at hb
    cases hb
  rw [Bool.not_eq_false', Bool.and_eq_true, Bool.and_eq_true, Bool.and_eq_true, decide_eq_true_eq, decide_eq_true_eq, decide_eq_true_eq, decide_eq_true_eq] at hb
  obtain ⟨⟨y1, y2⟩, m1, m2⟩ := hb
  refine q_when (b := !(decide (1 ≤ d) && decide (d ≤ mlen y m))) ?_ (fun hb H2 e2 => s_ret (v := dayV y m d) ?_ fun H3 e3 => q _ ((e1.trans e2).trans e3)) fun hb H2 e2 => ?_
  · exact et_not (et_test (ev_chain ev_c (ev_var rfl) rv_I0 (fun _ => ec_mlen (ev_var rfl) (ev_var rfl) ⟨m1, m2⟩) (fun _ => rv_I0)))
  · refine ev_is ev_c ?_
    unfold dayV
    rw [if_neg]
    intro z
    obtain ⟨_, _, ⟨a1, a2⟩⟩ := z
    rw [decide_eq_true a1, decide_eq_true a2] at hb
    cases hb
  rw [Bool.not_eq_false', Bool.and_eq_true, decide_eq_true_eq, decide_eq_true_eq] at hb
  have hD : isD y m d := ⟨⟨y1, y2⟩, ⟨m1, m2⟩, hb⟩
  refine q_asg (v := .int (y - 1)) (by walk_at "ev") fun H3 e3 => ?_
  refine q_asg (v := .int (yst y)) ?_ fun H4 e4 => ?_
  · exact ev_op (ev_op (ev_op (ev_op ev_c (ev_var rfl) (rv_I (.inl ⟨by decide, by decide⟩))) (ev_op (ev_var rfl) ev_c (rv_I ⟨by decide, by decide⟩)) rv_I0) (ev_op (ev_var rfl) ev_c (rv_I ⟨by decide, by decide⟩)) rv_I0) (ev_op (ev_var rfl) ev_c (rv_I ⟨by decide, by decide⟩)) rv_I0
  have x4 := ((e1.trans e2).trans e3).trans e4
  refine q_forR2 (lo := 1) (n := m) (ea_cons ev_c (ea_cons (ev_var rfl) ea_nil)) ⟨by omega, by omega, by omega, by omega⟩
    (fun i σ H' => ∃ y5, σ = [some (.int y), some (.int m), some (.int d), some (.int (y - 1)), some (.int (yst y + cumN y i)), y5] ∧ Ex H H')
    (fun H5 e5 => ⟨none, by show _ = [_, _, _, _, some (V.int (yst y + 0)), _]; rw [Int.add_zero]; rfl, x4.trans e5⟩) (fun i σ H5 hi hw => ?_) (fun σ H5 hw => ?_)
  · obtain ⟨y5, rfl, e5⟩ := hw
    refine s_aug (a := yst y + cumN y i) (b := mlen y (1 + (i : Int))) rfl (ec_mlen (ev_var rfl) (ev_var rfl) (by omega)) fun H6 e6 => ⟨some (.int (1 + (i : Int))), ?_, e5.trans e6⟩
    show _ = [_, _, _, _, some (V.int (yst y + (cumN y i + mlen y ((i : Int) + 1)))), _]
    rw [← Int.add_assoc, Int.add_comm (i : Int) 1]
    rfl
  · obtain ⟨y5, rfl, e5⟩ := hw
    refine s_ret (v := dayV y m d) ?_ fun H6 e6 => q _ (e5.trans e6)
    refine ev_is (v := .int (dayN y m d)) ?_ (by unfold dayV; rw [if_pos hD])
    exact ev_op (ev_op (ev_op ev_c (ev_var rfl) rv_I0) (ev_var rfl) rv_I0) ev_c rv_I0
theorem ok_date_of (D : Dn K mg "date_of" s_date_of ["day"]) (c_month_length : C8.Cal P w K mg base 2 "month_length" (sp_month_length K) []) (z_divmod : mg "divmod" = none) (z_min : mg "min" = none) (g_FIRST_DAY : ∃ u, mg "FIRST_DAY" = some u ∧ RelV (.int (-719162)) u) (g__DAYS_OF_100_YEARS : ∃ u, mg "_DAYS_OF_100_YEARS" = some u ∧ RelV (.int (36524)) u) (g__DAYS_OF_400_YEARS : ∃ u, mg "_DAYS_OF_400_YEARS" = some u ∧ RelV (.int (146097)) u) (g__DAYS_OF_4_YEARS : ∃ u, mg "_DAYS_OF_4_YEARS" = some u ∧ RelV (.int (1461)) u) (g__DAYS_OF_YEAR : ∃ u, mg "_DAYS_OF_YEAR" = some u ∧ RelV (.int (365)) u) :
    C8.Cal P w K mg base 3 "date_of" (sp_date_of K) [] := by
  refine cal_of D sc_date_of (fun vs H Q E h => ?_) (fun f cdv A outer s H vs Q E hr h => ?_)
  · obtain ⟨_, rfl, _⟩ := h
    rfl
  refine ⟨_, (pss_cons (ps_asg (pe_callB call_divmod (by rfl) z_divmod (by decide +kernel) (pa_cons (pe_op op_sub (pv 0) (C8.pe_gc rfl g_FIRST_DAY)) (pa_cons (C8.pe_gc rfl g__DAYS_OF_400_YEARS) pa_nil))) (pg_tup rfl (pgs_cons (pg_name (i := 1) sc_date_of.nd rfl (.inl rfl)) (pgs_cons (pg_name (i := 2) sc_date_of.nd rfl (.inl rfl)) pgs_nil))))
    (pss_cons (ps_set (i := 3) sc_date_of.nd rfl (.inl rfl) (pe_callB (call_min2 rfl) (by rfl) z_min (by decide +kernel) (pa_cons (pe_op op_fdiv (pv 2) (C8.pe_gc rfl g__DAYS_OF_100_YEARS)) (pa_cons pe_int pa_nil))))
    (pss_cons (ps_aug (i := 2) sc_date_of.nd rfl (.inl rfl) (pe_op op_mul (pv 3) (C8.pe_gc rfl g__DAYS_OF_100_YEARS)) ip_sub)
    (pss_cons (ps_asg (pe_callB call_divmod (by rfl) z_divmod (by decide +kernel) (pa_cons (pv 2) (pa_cons (C8.pe_gc rfl g__DAYS_OF_4_YEARS) pa_nil))) (pg_tup rfl (pgs_cons (pg_name (i := 4) sc_date_of.nd rfl (.inl rfl)) (pgs_cons (pg_name (i := 2) sc_date_of.nd rfl (.inl rfl)) pgs_nil))))
    (pss_cons (ps_set (i := 5) sc_date_of.nd rfl (.inl rfl) (pe_callB (call_min2 rfl) (by rfl) z_min (by decide +kernel) (pa_cons (pe_op op_fdiv (pv 2) (C8.pe_gc rfl g__DAYS_OF_YEAR)) (pa_cons pe_int pa_nil))))
    (pss_cons (ps_aug (i := 2) sc_date_of.nd rfl (.inl rfl) (pe_op op_mul (pv 5) (C8.pe_gc rfl g__DAYS_OF_YEAR)) ip_sub)
    (pss_cons (ps_set (i := 6) sc_date_of.nd rfl (.inl rfl) (pe_op op_add (pe_op op_add (pe_op op_add (pe_op op_add (pe_op op_mul pe_int (pv 1)) (pe_op op_mul pe_int (pv 3))) (pe_op op_mul pe_int (pv 4))) (pv 5)) pe_int))
    (pss_cons (ps_set (i := 7) sc_date_of.nd rfl (.inl rfl) pe_int)
    (pss_cons (ps_while PassesOwn.never (pt_cmpR op_ge (pv 2) (C8.pe_c c_month_length hr (by decide) (by rfl) (pa_cons (pv 6) (pa_cons (pv 7) pa_nil))) (nomark _))
      (pss_cons (ps_aug (i := 2) sc_date_of.nd rfl (.inl rfl) (C8.pe_c c_month_length hr (by decide) (by rfl) (pa_cons (pv 6) (pa_cons (pv 7) pa_nil))) ip_sub)
    (pss_one (ps_aug (i := 7) sc_date_of.nd rfl (.inl rfl) pe_int ip_add))))
    (pss_one (ps_ret (pe_tup (pa_cons (pv 6) (pa_cons (pv 7) (pa_cons (pe_op op_add (pv 2) pe_int) pa_nil))))))))))))))), ?_⟩
  obtain ⟨d, rfl, hd, q⟩ := h
  refine q_asgG (eu_divmod (i := d - -719162) (j := 146097) (ev_op (ev_var rfl) ev_c rv_I0) ev_c ⟨by decide, by decide⟩) fun p H1 hp e1 h1 => gt2 (st_of h1) ?_
  refine q_asg (v := .int (if (3 : Int) < (d - -719162) % 146097 / 36524 then 3 else (d - -719162) % 146097 / 36524)) (ev_min2 (ev_op (ev_var rfl) ev_c (rv_I ⟨by decide, by decide⟩)) ev_c) fun H2 e2 => ?_
  generalize hc : (if (3 : Int) < (d - -719162) % 146097 / 36524 then (3 : Int) else (d - -719162) % 146097 / 36524) = c
  have c0 : 0 ≤ c ∧ c ≤ 3 := by rw [← hc]; split <;> omega
  refine q_aug (a := (d - -719162) % 146097) (b := c * 36524) rfl (ev_op (ev_var rfl) ev_c (rv_I (.inr ⟨by decide, by decide⟩))) fun H3 e3 => ?_
  refine q_asgG (eu_divmod (i := (d - -719162) % 146097 - c * 36524) (j := 1461) (ev_var rfl) ev_c ⟨by decide, by decide⟩) fun p2 H4 hp2 e4 h4 => gt2 (st_of h4) ?_
  generalize hf : ((d - -719162) % 146097 - c * 36524) / 1461 = f
  generalize hr2 : ((d - -719162) % 146097 - c * 36524) % 1461 = r2
  refine q_asg (v := .int (if (3 : Int) < r2 / 365 then 3 else r2 / 365)) (ev_min2 (ev_op (ev_var rfl) ev_c (rv_I ⟨by decide, by decide⟩)) ev_c) fun H5 e5 => ?_
  generalize hg : (if (3 : Int) < r2 / 365 then (3 : Int) else r2 / 365) = g
  have g0 : 0 ≤ g ∧ g ≤ 3 := by rw [← hg]; split <;> omega
  refine q_aug (a := r2) (b := g * 365) rfl (ev_op (ev_var rfl) ev_c (rv_I (.inr ⟨by decide, by decide⟩))) fun H6 e6 => ?_
  refine q_asg (v := .int (400 * ((d - -719162) / 146097) + 100 * c + 4 * f + g + 1)) (by walk_at "ev") fun H7 e7 => ?_
  have hp := parts (D := d - -719162) (c := (d - -719162) / 146097) (h := c) (f := f) (g := g) (r := r2 - g * 365) (by omega) (by omega) c0
    (by rw [← hf]; rw [← hc]; split <;> omega) g0 (by rw [← hg]; split <;> omega) (by rw [← hc] at *; split at hc <;> (rw [← hg]; split <;> omega))
  generalize hy : 400 * ((d - -719162) / 146097) + 100 * c + 4 * f + g + 1 = y at *
  generalize hr3 : r2 - g * 365 = r at *
  obtain ⟨p1, p2', p3, p4⟩ := hp
  have r0 : 0 ≤ r := by rw [← hr3, ← hg]; split <;> omega
  have y9 : y ≤ 9999 := by
    refine Int.not_lt.mp fun z => ?_
    have := yst_mono (show 10000 ≤ y from z)
    rw [show yst 10000 = 3652059 by decide] at this
    omega
  refine q_asg ev_c fun H8 e8 => ?_
  have x8 := ((((((e1.trans e2).trans e3).trans e4).trans e5).trans e6).trans e7).trans e8
  refine q_while (fun n σ H' => ∃ k : Nat, n = 12 - k ∧ k ≤ 11 ∧ cumN y k ≤ r ∧ σ = [some (.int d), some (.int ((d - -719162) / 146097)), some (.int (r - cumN y k)), some (.int c), some (.int f), some (.int g), some (.int y), some (.int ((k : Int) + 1))] ∧ Ex H H') 12
    ⟨0, rfl, by decide, r0, by show _ = [_, _, some (V.int (r - 0)), _, _, _, _, _]; rw [Int.sub_zero]; rfl, x8⟩ fun n σ H' hw => ?_
  obtain ⟨k, rfl, hk, hck, rfl, e9⟩ := hw
  refine ⟨decide (mlen y ((k : Int) + 1) ≤ r - cumN y k), et_test (ev_op (ev_var rfl) (ec_mlen (ev_var rfl) (ev_var rfl) (by omega)) rv_I0), fun hb H1' e1' => ?_, fun hb H1' e1' => ?_⟩
  · have hb' := of_decide_eq_true hb
    have hc1 : cumN y (k + 1) ≤ r := by show cumN y k + mlen y ((k : Int) + 1) ≤ r; omega
    have hk1 : k + 1 ≤ 11 := by
      rcases Nat.lt_or_ge k 11 with z | z
      · omega
      · have ek : k = 11 := by omega
        subst ek
        have z2 : cumN y 12 ≤ r := hc1
        omega
    refine ⟨_, fun σ2 H2' hN => hN, ?_⟩
    refine q_aug (a := r - cumN y k) (b := mlen y ((k : Int) + 1)) rfl (ec_mlen (ev_var rfl) (ev_var rfl) (by omega)) fun H2' e2' => ?_
    refine s_aug (a := (k : Int) + 1) (b := 1) rfl ev_c fun H3' e3' => ⟨12 - (k + 1), by omega, k + 1, rfl, hk1, hc1, ?_, ((e9.trans e1').trans e2').trans e3'⟩
    show _ = [_, _, some (V.int (r - (cumN y k + mlen y ((k : Int) + 1)))), _, _, _, _, some (V.int (((k + 1 : Nat) : Int) + 1))]
    rw [← Int.sub_sub, Int.natCast_add]
    rfl
  · have hb' := of_decide_eq_false hb
    have hD : isD y ((k : Int) + 1) (r - cumN y k + 1) := ⟨⟨p3, y9⟩, ⟨by omega, by omega⟩, by omega, by omega⟩
    have he : dayN y ((k : Int) + 1) (r - cumN y k + 1) = d := by
      unfold dayN
      rw [show ((k : Int) + 1 - 1).toNat = k by omega]
      omega
    refine s_retU (xs := tri (dt d)) ?_ fun p H2' hp' e2' h2' => q p H2' ?_ ((e9.trans e1').trans e2') h2'
    · rw [dt_eq hD he]
      exact eu_tup (ea_cons (ev_var rfl) (ea_cons (ev_var rfl) (ea_cons (ev_op (ev_var rfl) ev_c rv_I0) ea_nil))) (by show 3 ≤ 100000; decide)
    · exact fresh_back (e9.trans e1') hp'
end

/-! ### the three tables -/
def neg3 (x : V) : V := if x = .bl true then .bl false else if x = .bl false then .bl true else .non
def and3 (x y : V) : V := if x = .bl false ∨ y = .bl false then .bl false else if x = .bl true ∧ y = .bl true then .bl true else .non
def or3 (x y : V) : V := if x = .bl true ∨ y = .bl true then .bl true else if x = .bl false ∧ y = .bl false then .bl false else .non
def sp_negated (K : PySem.W.Frag) : Sp := fun vs H Q _ => ∃ x : V, vs = [x] ∧ ∀ H', Ex H H' → Q (neg3 x) H'
def sp_both (K : PySem.W.Frag) : Sp := fun vs H Q _ => ∃ x y : V, vs = [x, y] ∧ ∀ H', Ex H H' → Q (and3 x y) H'
def sp_either (K : PySem.W.Frag) : Sp := fun vs H Q _ => ∃ x y : V, vs = [x, y] ∧ ∀ H', Ex H H' → Q (or3 x y) H'
section
variable {P : Program} {w : World} {K : PySem.W.Frag} {mg : Str → Option Value} {base : Heap}
theorem ok_both (D : Dn K mg "both" s_both ["first", "second"]) :
    C8.Cal P w K mg base 1 "both" (sp_both K) [] := by
  refine cal_of D sc_both (fun vs H Q E h => ?_) (fun f cdv A outer s H vs Q E hr h => ?_)
  · obtain ⟨_, _, rfl, _⟩ := h
    rfl
  refine ⟨_, (pss_cons (ps_if (PW.pt (pw_or (pt_cmpR op_isTF (pv 0) pe_bl (nomark _)) (pw_or1 (pt_cmpR op_isTF (pv 1) pe_bl (nomark _)))))
      (pss_one (ps_ret pe_bl))
      pss_nil)
    (pss_cons (ps_if (PW.pt (pw_and (pt_cmpR op_isTF (pv 0) pe_bl (nomark _)) (pw_and1 (pt_cmpR op_isTF (pv 1) pe_bl (nomark _)))))
      (pss_one (ps_ret pe_bl))
      pss_nil)
    (pss_one (ps_ret pe_non)))), ?_⟩
  obtain ⟨x, y, rfl, q⟩ := h
  refine q_when (b := decide (x = .bl false) || decide (y = .bl false)) (by walk_at "et") (fun hb H1 e1 => s_ret (v := and3 x y) ?_ fun H2 e2 => q _ (e1.trans e2)) fun hb H1 e1 => ?_
  · refine ev_is ev_c ?_
    unfold and3
    rw [if_pos (by rw [Bool.or_eq_true, decide_eq_true_eq, decide_eq_true_eq] at hb; exact hb)]
  have nb : ¬ (x = .bl false ∨ y = .bl false) := by
    intro z
    rw [Bool.or_eq_false_iff, decide_eq_false_iff_not, decide_eq_false_iff_not] at hb
    exact z.elim hb.1 hb.2
  refine q_when (b := decide (x = .bl true) && decide (y = .bl true)) (by walk_at "et") (fun hc H2 e2 => s_ret (v := and3 x y) ?_ fun H3 e3 => q _ ((e1.trans e2).trans e3)) fun hc H2 e2 => s_ret (v := and3 x y) ?_ fun H3 e3 => q _ ((e1.trans e2).trans e3)
  · refine ev_is ev_c ?_
    unfold and3
    rw [if_neg nb, if_pos (by rw [Bool.and_eq_true, decide_eq_true_eq, decide_eq_true_eq] at hc; exact hc)]
  · refine ev_is ev_c ?_
    unfold and3
    rw [if_neg nb, if_neg (fun z => by rw [decide_eq_true z.1, decide_eq_true z.2] at hc; cases hc)]
theorem ok_either (D : Dn K mg "either" s_either ["first", "second"]) :
    C8.Cal P w K mg base 1 "either" (sp_either K) [] := by
  refine cal_of D sc_either (fun vs H Q E h => ?_) (fun f cdv A outer s H vs Q E hr h => ?_)
  · obtain ⟨_, _, rfl, _⟩ := h
    rfl
  refine ⟨_, (pss_cons (ps_if (PW.pt (pw_or (pt_cmpR op_isTF (pv 0) pe_bl (nomark _)) (pw_or1 (pt_cmpR op_isTF (pv 1) pe_bl (nomark _)))))
      (pss_one (ps_ret pe_bl))
      pss_nil)
    (pss_cons (ps_if (PW.pt (pw_and (pt_cmpR op_isTF (pv 0) pe_bl (nomark _)) (pw_and1 (pt_cmpR op_isTF (pv 1) pe_bl (nomark _)))))
      (pss_one (ps_ret pe_bl))
      pss_nil)
    (pss_one (ps_ret pe_non)))), ?_⟩
  obtain ⟨x, y, rfl, q⟩ := h
  refine q_when (b := decide (x = .bl true) || decide (y = .bl true)) (by walk_at "et") (fun hb H1 e1 => s_ret (v := or3 x y) ?_ fun H2 e2 => q _ (e1.trans e2)) fun hb H1 e1 => ?_
  · refine ev_is ev_c ?_
    unfold or3
    rw [if_pos (by rw [Bool.or_eq_true, decide_eq_true_eq, decide_eq_true_eq] at hb; exact hb)]
  have nb : ¬ (x = .bl true ∨ y = .bl true) := by
    intro z
    rw [Bool.or_eq_false_iff, decide_eq_false_iff_not, decide_eq_false_iff_not] at hb
    exact z.elim hb.1 hb.2
  refine q_when (b := decide (x = .bl false) && decide (y = .bl false)) (by walk_at "et") (fun hc H2 e2 => s_ret (v := or3 x y) ?_ fun H3 e3 => q _ ((e1.trans e2).trans e3)) fun hc H2 e2 => s_ret (v := or3 x y) ?_ fun H3 e3 => q _ ((e1.trans e2).trans e3)
  · refine ev_is ev_c ?_
    unfold or3
    rw [if_neg nb, if_pos (by rw [Bool.and_eq_true, decide_eq_true_eq, decide_eq_true_eq] at hc; exact hc)]
  · refine ev_is ev_c ?_
    unfold or3
    rw [if_neg nb, if_neg (fun z => by rw [decide_eq_true z.1, decide_eq_true z.2] at hc; cases hc)]
section
variable {σ : L2.St} {H : Hp} {ta tb : TE} {E : XK} {x y : V}
theorem ec_both (ha : Ev ta σ H x) (hb : Ev tb σ H y) : Ev (tCall (sp_both K) [] E (tCons ta (tCons tb tNil))) σ H (and3 x y) := ev_call (ea_cons ha (ea_cons hb ea_nil)) fun H1 e Q q E => ⟨x, y, rfl, q⟩
theorem ec_either (ha : Ev ta σ H x) (hb : Ev tb σ H y) : Ev (tCall (sp_either K) [] E (tCons ta (tCons tb tNil))) σ H (or3 x y) := ev_call (ea_cons ha (ea_cons hb ea_nil)) fun H1 e Q q E => ⟨x, y, rfl, q⟩
end
end

/-! ### the mathematics -/
def ab (i : Int) : Int := if i < 0 then -i else i
def rnd (n d : Int) : Int := if decide (V.bl (decide (n < 0)) = V.bl (decide (d < 0))) = true then (2 * ab n + ab d) / (2 * ab d) else -((2 * ab n + ab d) / (2 * ab d))
def quo (n d : Int) : Int := if decide (V.bl (decide (n < 0)) = V.bl (decide (d < 0))) = true then ab n / ab d else -(ab n / ab d)
theorem ab_nn (i : Int) : 0 ≤ ab i := by unfold ab; split <;> omega
theorem ab_pos {d : Int} (h : d ≠ 0) : 0 < ab d := by unfold ab; split <;> omega
theorem ab_or (i : Int) : (0 ≤ i ∧ ab i = i) ∨ (i < 0 ∧ ab i = -i) := by unfold ab; split <;> omega
theorem ab_neg (i : Int) : ab (-i) = ab i := by unfold ab; split <;> split <;> omega
/-- the off of a number from a multiple, by sizes -/
theorem off_eq {n d s t : Int} (h : t = if decide (V.bl (decide (n < 0)) = V.bl (decide (d < 0))) = true then s else -s) : (n - t * d = ab n - s * ab d ∧ 0 ≤ n) ∨ (n - t * d = -(ab n - s * ab d) ∧ n < 0) := by
  rw [dec_bl] at h
  unfold ab
  by_cases hn : n < 0 <;> by_cases hd : d < 0
  · rw [decide_eq_true hn, decide_eq_true hd, if_pos (beq_self_eq_true _)] at h
    rw [if_pos hn, if_pos hd, h, Int.mul_neg]
    exact .inr ⟨by omega, hn⟩
  · rw [decide_eq_true hn, decide_eq_false hd, if_neg (by decide)] at h
    rw [if_pos hn, if_neg hd, h, Int.neg_mul]
    exact .inr ⟨by omega, hn⟩
  · rw [decide_eq_false hn, decide_eq_true hd, if_neg (by decide)] at h
    rw [if_neg hn, if_pos hd, h, Int.neg_mul, Int.mul_neg]
    exact .inl ⟨by omega, by omega⟩
  · rw [decide_eq_false hn, decide_eq_false hd, if_pos (beq_self_eq_true _)] at h
    rw [if_neg hn, if_neg hd, h]
    exact .inl ⟨by omega, by omega⟩
theorem rnd_size {n d : Int} (h : d ≠ 0) : (2 * ab n + ab d) / (2 * ab d) * ab d * 2 ≤ 2 * ab n + ab d ∧ 2 * ab n + ab d < (2 * ab n + ab d) / (2 * ab d) * ab d * 2 + 2 * ab d ∧ 0 ≤ (2 * ab n + ab d) / (2 * ab d) := by
  have hd := ab_pos h
  have hn := ab_nn n
  have e := Int.mul_ediv_add_emod (2 * ab n + ab d) (2 * ab d)
  have h1 := Int.emod_nonneg (2 * ab n + ab d) (show 2 * ab d ≠ 0 by omega)
  have h2 := Int.emod_lt_of_pos (2 * ab n + ab d) (show 0 < 2 * ab d by omega)
  have e2 : 2 * ab d * ((2 * ab n + ab d) / (2 * ab d)) = (2 * ab n + ab d) / (2 * ab d) * ab d * 2 := by
    rw [Int.mul_comm (2 * ab d), Int.mul_comm 2 (ab d), ← Int.mul_assoc]
  have h3 : 0 ≤ (2 * ab n + ab d) / (2 * ab d) := Int.ediv_nonneg (by omega) (by omega)
  omega
theorem ab_ite {c : Prop} [Decidable c] {s : Int} (h : 0 ≤ s) : ab (if c then s else -s) = s := by
  unfold ab
  split <;> split <;> omega
/-- the nearest one: what the law asks of it -/
theorem rnd_near {n d : Int} (h : d ≠ 0) : ¬ 2 * ab (n - rnd n d * d) > ab d ∧ (2 * ab (n - rnd n d * d) = ab d → ab n < ab (rnd n d) * ab d) := by
  obtain ⟨h1, h2, h3⟩ := rnd_size (n := n) h
  have e1 : ab (rnd n d) = (2 * ab n + ab d) / (2 * ab d) := ab_ite h3
  rw [e1]
  have ho := off_eq (n := n) (d := d) (s := (2 * ab n + ab d) / (2 * ab d)) (t := rnd n d) rfl
  have e2 : ab (n - rnd n d * d) = ab (ab n - (2 * ab n + ab d) / (2 * ab d) * ab d) := by
    rcases ho with ⟨e, _⟩ | ⟨e, _⟩
    · rw [e]
    · rw [e, ab_neg]
  rw [e2]
  generalize (2 * ab n + ab d) / (2 * ab d) * ab d = m at *
  have hx := ab_or (ab n - m)
  have := ab_nn (ab n - m)
  constructor <;> omega
theorem quo_ok {n d : Int} (h : d ≠ 0) : ¬ ab (n - quo n d * d) ≥ ab d ∧ (n - quo n d * d = 0 ∨ decide (n - quo n d * d < 0) = decide (n < 0)) := by
  have hd := ab_pos h
  have hn := ab_nn n
  have e := Int.mul_ediv_add_emod (ab n) (ab d)
  have h1 := Int.emod_nonneg (ab n) (show ab d ≠ 0 by omega)
  have h2 := Int.emod_lt_of_pos (ab n) hd
  have ho := off_eq (n := n) (d := d) (s := ab n / ab d) (t := quo n d) rfl
  rw [Int.mul_comm] at e
  generalize ab n / ab d * ab d = m at *
  generalize n - quo n d * d = z at *
  rcases ho with ⟨e1, e3⟩ | ⟨e1, e3⟩
  · refine ⟨?_, ?_⟩
    · have : ab z = z := by unfold ab; split <;> omega
      omega
    · rw [decide_eq_false (show ¬ z < 0 by omega), decide_eq_false (show ¬ n < 0 by omega)]
      exact .inr rfl
  · refine ⟨?_, ?_⟩
    · have : ab z = -z := by unfold ab; split <;> omega
      omega
    · by_cases hz : z = 0
      · exact .inl hz
      · rw [decide_eq_true (show z < 0 by omega), decide_eq_true e3]
        exact .inr rfl
def big (n d : Int) : Prop := -(2 ^ 112) < n ∧ n < 2 ^ 112 ∧ -(2 ^ 112) < d ∧ d < 2 ^ 112 ∧ d ≠ 0
theorem pow112 {n : Int} (h1 : -(2 ^ 112) < n) (h2 : n < 2 ^ 112) : n.natAbs < 2 ^ 112 := by omega
theorem near_bound {n d : Int} (h : big n d) : (rnd n d).natAbs < 2 ^ 115 := by
  obtain ⟨h1, h2, h3⟩ := rnd_size (n := n) h.2.2.2.2
  have hd := ab_pos h.2.2.2.2
  have : (2 * ab n + ab d) / (2 * ab d) ≤ 2 * ab n + ab d := by
    have := Int.ediv_le_self (2 * ab d) (show 0 ≤ 2 * ab n + ab d by have := ab_nn n; omega)
    omega
  have a1 : ab n < 2 ^ 112 := by unfold ab; have := h.1; have := h.2.1; split <;> omega
  have a2 : ab d < 2 ^ 112 := by unfold ab; have := h.2.2.1; have := h.2.2.2.1; split <;> omega
  unfold rnd
  split <;> omega
theorem quo_bound {n d : Int} (h : big n d) : (quo n d).natAbs < 2 ^ 115 := by
  have hd := ab_pos h.2.2.2.2
  have h0 : 0 ≤ ab n / ab d := Int.ediv_nonneg (ab_nn n) (ab_nn d)
  have : ab n / ab d ≤ ab n := Int.ediv_le_self _ (ab_nn n)
  have a1 : ab n < 2 ^ 112 := by unfold ab; have := h.1; have := h.2.1; split <;> omega
  unfold quo
  split <;> omega
def sp_rounded (K : PySem.W.Frag) : Sp := fun vs H Q _ => ∃ n d : Int, vs = [.int n, .int d] ∧ big n d ∧ ∀ H', Ex H H' → Q (.int (rnd n d)) H'
def sp_quotient (K : PySem.W.Frag) : Sp := fun vs H Q _ => ∃ n d : Int, vs = [.int n, .int d] ∧ big n d ∧ ∀ H', Ex H H' → Q (.int (quo n d)) H'
theorem wdiv {n d : Int} (h0 : 0 < d) (h : d < 2 ^ 120) : CDivW n d := wide_div (b := 120) h0 (by omega) (by decide) (by decide)
theorem wmul {n d : Int} (h0 : n.natAbs < 2 ^ 115) (h : d.natAbs < 2 ^ 115) : CMulW n d := wide_mul h0 h (by decide) (by decide) (by decide)
section
variable {P : Program} {w : World} {K : PySem.W.Frag} {mg : Str → Option Value} {base : Heap}
theorem ok_rounded (D : Dn K mg "rounded" s_rounded ["number", "divisor"]) (z_abs : mg "abs" = none) :
    C8.Cal P w K mg base 1 "rounded" (sp_rounded K) [] := by
  refine cal_of D sc_rounded (fun vs H Q E h => ?_) (fun f cdv A outer s H vs Q E hr h => ?_)
  · obtain ⟨_, _, rfl, _⟩ := h
    rfl
  refine ⟨_, (pss_cons (ps_set (i := 2) sc_rounded.nd rfl (.inl rfl) (pe_op op_fdivW (pe_op op_add (pe_op op_mul pe_int (pe_callB call_abs (by rfl) z_abs (by decide +kernel) (pa_cons (pv 0) pa_nil))) (pe_callB call_abs (by rfl) z_abs (by decide +kernel) (pa_cons (pv 1) pa_nil))) (pe_op op_mul pe_int (pe_callB call_abs (by rfl) z_abs (by decide +kernel) (pa_cons (pv 1) pa_nil)))))
    (pss_one (ps_ret (pe_ifExp (pt_cmpR op_eq (pe_cmpR op_lt (pv 0) pe_int (nomark _)) (pe_cmpR op_lt (pv 1) pe_int (nomark _)) (nomark _)) (pv 2) (pe_un un_neg (pv 2)))))), ?_⟩
  obtain ⟨n, d, rfl, hb, q⟩ := h
  have hd := ab_pos hb.2.2.2.2
  have a2 : ab d < 2 ^ 112 := by unfold ab; have := hb.2.2.1; have := hb.2.2.2.1; split <;> omega
  refine q_asg (v := .int ((2 * ab n + ab d) / (2 * ab d))) ?_ fun H1 e1 => ?_
  · exact ev_op (ev_op (ev_op ev_c (ev_abs (ev_var rfl)) (rv_I (.inl ⟨by decide, by decide⟩))) (ev_abs (ev_var rfl)) rv_I0) (ev_op ev_c (ev_abs (ev_var rfl)) (rv_I (.inl ⟨by decide, by decide⟩))) (rv_I (wdiv (by show 0 < 2 * ab d; omega) (by show 2 * ab d < 2 ^ 120; omega)))
  refine s_ret (v := .int (rnd n d)) ?_ fun H2 e2 => q _ (e1.trans e2)
  refine ev_if (b := decide (V.bl (decide (n < 0)) = V.bl (decide (d < 0)))) (by walk_at "et") (fun h => ?_) (fun h => ?_)
  · refine ev_is (ev_var rfl) ?_
    unfold rnd
    rw [if_pos h]
  · refine ev_is (v := .int (-((2 * ab n + ab d) / (2 * ab d)))) (by walk_at "ev") ?_
    unfold rnd
    rw [if_neg (by rw [h]; decide)]
theorem ok_quotient (D : Dn K mg "quotient" s_quotient ["number", "divisor"]) (z_abs : mg "abs" = none) :
    C8.Cal P w K mg base 1 "quotient" (sp_quotient K) [] := by
  refine cal_of D sc_quotient (fun vs H Q E h => ?_) (fun f cdv A outer s H vs Q E hr h => ?_)
  · obtain ⟨_, _, rfl, _⟩ := h
    rfl
  refine ⟨_, (pss_cons (ps_set (i := 2) sc_quotient.nd rfl (.inl rfl) (pe_op op_fdivW (pe_callB call_abs (by rfl) z_abs (by decide +kernel) (pa_cons (pv 0) pa_nil)) (pe_callB call_abs (by rfl) z_abs (by decide +kernel) (pa_cons (pv 1) pa_nil))))
    (pss_one (ps_ret (pe_ifExp (pt_cmpR op_eq (pe_cmpR op_lt (pv 0) pe_int (nomark _)) (pe_cmpR op_lt (pv 1) pe_int (nomark _)) (nomark _)) (pv 2) (pe_un un_neg (pv 2)))))), ?_⟩
  obtain ⟨n, d, rfl, hb, q⟩ := h
  have hd := ab_pos hb.2.2.2.2
  have a2 : ab d < 2 ^ 112 := by unfold ab; have := hb.2.2.1; have := hb.2.2.2.1; split <;> omega
  refine q_asg (v := .int (ab n / ab d)) ?_ fun H1 e1 => ?_
  · exact ev_op (ev_abs (ev_var rfl)) (ev_abs (ev_var rfl)) (rv_I (wdiv (by show 0 < ab d; omega) (by show ab d < 2 ^ 120; omega)))
  refine s_ret (v := .int (quo n d)) ?_ fun H2 e2 => q _ (e1.trans e2)
  refine ev_if (b := decide (V.bl (decide (n < 0)) = V.bl (decide (d < 0)))) (by walk_at "et") (fun h => ?_) (fun h => ?_)
  · refine ev_is (ev_var rfl) ?_
    unfold quo
    rw [if_pos h]
  · refine ev_is (v := .int (-(ab n / ab d))) (by walk_at "ev") ?_
    unfold quo
    rw [if_neg (by rw [h]; decide)]
section
variable {σ : L2.St} {H : Hp} {ta tb : TE} {E : XK} {n d : Int}
theorem ec_rounded (hb : big n d) (ha : Ev ta σ H (.int n)) (hb : Ev tb σ H (.int d)) : Ev (tCall (sp_rounded K) [] E (tCons ta (tCons tb tNil))) σ H (.int (rnd n d)) := ev_call (ea_cons ha (ea_cons hb ea_nil)) fun H1 e Q q E => ⟨n, d, rfl, by assumption, q⟩
theorem ec_quotient (hb : big n d) (ha : Ev ta σ H (.int n)) (hb : Ev tb σ H (.int d)) : Ev (tCall (sp_quotient K) [] E (tCons ta (tCons tb tNil))) σ H (.int (quo n d)) := ev_call (ea_cons ha (ea_cons hb ea_nil)) fun H1 e Q q E => ⟨n, d, rfl, by assumption, q⟩
end
end

/-! ### the operations on two values -/
def limV (n : Int) : V := if -1000000000000000 ≤ n ∧ n ≤ 1000000000000000 then .int n else .non
def isDay : V → Bool
  | .int i => decide (-719162 ≤ i) && decide (i ≤ 2932896)
  | _ => false
/-- plain, and its ints are small -/
inductive Sm : V → Prop where
  | non : Sm .non
  | bl (b : Bool) : Sm (.bl b)
  | int (i : Int) (h : -1000000000000000 ≤ i ∧ i ≤ 1000000000000000) : Sm (.int i)
  | str (s : Str) (h : PyData.strOk s = true) : Sm (.str s)
theorem Sm.ok {x : V} (h : Sm x) : Ok x := by cases h <;> constructor <;> assumption
def bothOk (x y : V) : Prop := Ok x ∧ Ok y
def twoInts (x y : V) : Prop := ∃ a b : Int, x = .int a ∧ y = .int b ∧ (-1000000000000000 ≤ a ∧ a ≤ 1000000000000000) ∧ (-1000000000000000 ≤ b ∧ b ≤ 1000000000000000)
def dayInt (x y : V) : Prop := ∃ a b : Int, x = .int a ∧ y = .int b ∧ (-719162 ≤ a ∧ a ≤ 2932896) ∧ (-1000000000000000 ≤ b ∧ b ≤ 1000000000000000)
def anyV (_ _ : V) : Prop := True
def iOf : V → Int
  | .int i => i
  | _ => 0
def sameV (x y : V) : V := .bl (PyData.eqv (rkD x) (rkD y))
def lessV (x y : V) : V := .bl (ltD (rkD x) (rkD y))
def mostV (x y : V) : V := .bl (!ltD (rkD y) (rkD x))
def leastV (x y : V) : V := if ltD (rkD y) (rkD x) = true then y else x
def greatV (x y : V) : V := if ltD (rkD x) (rkD y) = true then y else x
def knownV (x y : V) : V := if x = .non then y else x
def addV (x y : V) : V := limV (iOf x + iOf y)
def subV (x y : V) : V := limV (iOf x - iOf y)
def mulV (x y : V) : V := limV (iOf x * iOf y)
def divV (x y : V) : V := if iOf y = 0 then .non else limV (quo (iOf x) (iOf y))
def restV (x y : V) : V := if iOf y = 0 then .non else limV (iOf x - iOf y * quo (iOf x) (iOf y))
def mulDV (x y : V) : V := limV (rnd (iOf x * iOf y) 10000)
def divDV (x y : V) : V := if iOf y = 0 then .non else limV (rnd (10000 * iOf x) (iOf y))
def daysV (x y : V) : V := if isDay (.int (iOf x + iOf y)) = true then .int (iOf x + iOf y) else .non
/-- the year and the month, months later -/
def monY (t : Int × Int × Int) (b : Int) : Int := t.1 + (t.2.1 - 1 + b) / 12
def monM (t : Int × Int × Int) (b : Int) : Int := (t.2.1 - 1 + b) % 12 + 1
def minI (a b : Int) : Int := if b < a then b else a
noncomputable def monthsV (x y : V) : V := dayV (monY (dt (iOf x)) (iOf y)) (monM (dt (iOf x)) (iOf y)) (minI (dt (iOf x)).2.2 (mlen (monY (dt (iOf x)) (iOf y)) (monM (dt (iOf x)) (iOf y))))
def sp_limited (K : PySem.W.Frag) : Sp := fun vs H Q _ => ∃ n : Int, vs = [.int n] ∧ ∀ H', Ex H H' → Q (limV n) H'
def sp_is_day (K : PySem.W.Frag) : Sp := fun vs H Q _ => ∃ x : V, vs = [x] ∧ Pl x ∧ ∀ H', Ex H H' → Q (.bl (isDay x)) H'
def sp__both (K : PySem.W.Frag) : Sp := spBin anyV and3
def sp__either (K : PySem.W.Frag) : Sp := spBin anyV or3
def sp__same (K : PySem.W.Frag) : Sp := spBin bothOk sameV
def sp__first_known (K : PySem.W.Frag) : Sp := spBin anyV knownV
def sp__equal (K : PySem.W.Frag) : Sp := spBin bothOk sameV
def sp__less (K : PySem.W.Frag) : Sp := spBin bothOk lessV
def sp__at_most (K : PySem.W.Frag) : Sp := spBin bothOk mostV
def sp__least (K : PySem.W.Frag) : Sp := spBin bothOk leastV
def sp__greatest (K : PySem.W.Frag) : Sp := spBin bothOk greatV
def sp__add (K : PySem.W.Frag) : Sp := spBin twoInts addV
def sp__subtract (K : PySem.W.Frag) : Sp := spBin twoInts subV
def sp__multiply (K : PySem.W.Frag) : Sp := spBin twoInts mulV
def sp__divide (K : PySem.W.Frag) : Sp := spBin twoInts divV
def sp__rest (K : PySem.W.Frag) : Sp := spBin twoInts restV
def sp__multiply_decimals (K : PySem.W.Frag) : Sp := spBin twoInts mulDV
def sp__divide_decimals (K : PySem.W.Frag) : Sp := spBin twoInts divDV
def sp__add_days (K : PySem.W.Frag) : Sp := spBin dayInt daysV
noncomputable def sp__add_months (K : PySem.W.Frag) : Sp := spBin dayInt monthsV
def alike (x y : V) : Bool := (!decide (x = .non)) && decide (V.int (kr x) = V.int (kr y))
def sp__are_alike (K : PySem.W.Frag) : Sp := fun vs H Q _ => ∃ x y : V, vs = [x, y] ∧ Ok x ∧ Ok y ∧ ∀ H', Ex H H' → Q (.bl (alike x y)) H'
theorem bigM {a b : Int} (ha : -1000000000000000 ≤ a ∧ a ≤ 1000000000000000) (hb : -1000000000000000 ≤ b ∧ b ≤ 1000000000000000) (h0 : b ≠ 0) : big a b := ⟨by omega, by omega, by omega, by omega, h0⟩
theorem nat50 {a : Int} (ha : -1000000000000000 ≤ a ∧ a ≤ 1000000000000000) : a.natAbs < 2 ^ 50 := by omega
theorem mul50 {a b : Int} (ha : -1000000000000000 ≤ a ∧ a ≤ 1000000000000000) (hb : -1000000000000000 ≤ b ∧ b ≤ 1000000000000000) : CMulW a b := wide_mul (nat50 ha) (nat50 hb) (by decide) (by decide) (by decide)
theorem mul100 {a b : Int} (ha : -1000000000000000 ≤ a ∧ a ≤ 1000000000000000) (hb : -1000000000000000 ≤ b ∧ b ≤ 1000000000000000) : (a * b).natAbs < 2 ^ 100 := wide_lt (nat50 ha) (nat50 hb)
section
variable {P : Program} {w : World} {K : PySem.W.Frag} {mg : Str → Option Value} {base : Heap}
section
variable {σ : L2.St} {H : Hp} {ta tb tc : TE} {E : XK} {x y : V} {n : Int}
theorem ec_lim (ha : Ev ta σ H (.int n)) : Ev (tCall (sp_limited K) [] E (tCons ta tNil)) σ H (limV n) := ev_call (ea_cons ha ea_nil) fun H1 e Q q E => ⟨n, rfl, q⟩
theorem ec_isday (ha : Ev ta σ H x) (h : Pl x) : Ev (tCall (sp_is_day K) [] E (tCons ta tNil)) σ H (.bl (isDay x)) := ev_call (ea_cons ha ea_nil) fun H1 e Q q E => ⟨x, rfl, h, q⟩
theorem ec_alike (ha : Ev ta σ H x) (hb : Ev tb σ H y) (h1 : Ok x) (h2 : Ok y) : Ev (tCall (sp__are_alike K) [] E (tCons ta (tCons tb tNil))) σ H (.bl (alike x y)) := ev_call (ea_cons ha (ea_cons hb ea_nil)) fun H1 e Q q E => ⟨x, y, rfl, h1, h2, q⟩
end
theorem ok_is_day (D : Dn K mg "is_day" s_is_day ["value"]) (c_is_integer : C8.Cal P w K mg base 1 "is_integer" (sp_is_integer K) []) (g_FIRST_DAY : ∃ u, mg "FIRST_DAY" = some u ∧ RelV (.int (-719162)) u) (g_LAST_DAY : ∃ u, mg "LAST_DAY" = some u ∧ RelV (.int (2932896)) u) :
    C8.Cal P w K mg base 2 "is_day" (sp_is_day K) [] := by
  refine cal_of D sc_is_day (fun vs H Q E h => ?_) (fun f cdv A outer s H vs Q E hr h => ?_)
  · obtain ⟨_, rfl, _⟩ := h
    rfl
  refine ⟨_, (pss_one (ps_ret (pe_and (C8.pe_c c_is_integer hr (by decide) (by rfl) (pa_cons (pv 0) pa_nil)) (pe_one (pe_chain op_le op_le (C8.pe_gc rfl g_FIRST_DAY) (pv 0) (C8.pe_gc rfl g_LAST_DAY)))))), ?_⟩
  obtain ⟨x, rfl, hx, q⟩ := h
  refine s_ret (v := .bl (isDay x)) ?_ fun H2 e2 => q _ e2
  cases hx with
  | int i => exact ev_is (ev_andV (ec_isint0 (ev_var rfl) (.int i)) fun _ => ev_chain ev_c (ev_var rfl) rv_I0 (fun _ => ev_c) (fun _ => rv_I0)) rfl
  | non => exact ev_is (ev_andV (b := true) (ec_isint0 (ev_var rfl) .non) fun z => nomatch z) rfl
  | bl b => exact ev_is (ev_andV (b := true) (ec_isint0 (ev_var rfl) (.bl b)) fun z => nomatch z) rfl
  | str s => exact ev_is (ev_andV (b := true) (ec_isint0 (ev_var rfl) (.str s)) fun z => nomatch z) rfl
theorem ok_limited (D : Dn K mg "limited" s_limited ["number"]) (g_GREATEST : ∃ u, mg "GREATEST" = some u ∧ RelV (.int (1000000000000000)) u) :
    C8.Cal P w K mg base 1 "limited" (sp_limited K) [] := by
  refine cal_of D sc_limited (fun vs H Q E h => ?_) (fun f cdv A outer s H vs Q E hr h => ?_)
  · obtain ⟨_, rfl, _⟩ := h
    rfl
  refine ⟨_, (pss_cons (ps_if (pt_chain op_le op_le (pe_un un_neg (C8.pe_gc rfl g_GREATEST)) (pv 0) (C8.pe_gc rfl g_GREATEST))
      (pss_one (ps_ret (pv 0)))
      pss_nil)
    (pss_one (ps_ret pe_non))), ?_⟩
  obtain ⟨n, rfl, q⟩ := h
  refine q_when (b := decide (-1000000000000000 ≤ n) && decide (n ≤ 1000000000000000)) (et_test (ev_chain (ev_un ev_c ru_neg) (ev_var rfl) rv_I0 (fun _ => ev_c) (fun _ => rv_I0))) (fun hb H1 e1 => s_ret (v := limV n) ?_ fun H2 e2 => q _ (e1.trans e2)) fun hb H1 e1 => s_ret (v := limV n) ?_ fun H2 e2 => q _ (e1.trans e2)
  · rw [Bool.and_eq_true, decide_eq_true_eq, decide_eq_true_eq] at hb
    refine ev_is (ev_var rfl) ?_
    unfold limV
    rw [if_pos hb]
  · refine ev_is ev_c ?_
    unfold limV
    rw [if_neg]
    intro z
    rw [decide_eq_true z.1, decide_eq_true z.2] at hb
    cases hb
theorem ok__both (D : Dn K mg "_both" s__both ["first", "second"]) (c_both : C8.Cal P w K mg base 1 "both" (sp_both K) []) :
    C8.Cal P w K mg base 2 "_both" (sp__both K) [] := by
  refine cal_of D sc__both (fun vs H Q E h => ?_) (fun f cdv A outer s H vs Q E hr h => ?_)
  · obtain ⟨_, _, rfl, _⟩ := h
    rfl
  refine ⟨_, (pss_one (ps_ret (C8.pe_c c_both hr (by decide) (by rfl) (pa_cons (pv 0) (pa_cons (pv 1) pa_nil))))), ?_⟩
  obtain ⟨x, y, rfl, _, q⟩ := h
  exact s_ret (ec_both (ev_var rfl) (ev_var rfl)) fun H2 e2 => q _ e2
theorem ok__either (D : Dn K mg "_either" s__either ["first", "second"]) (c_either : C8.Cal P w K mg base 1 "either" (sp_either K) []) :
    C8.Cal P w K mg base 2 "_either" (sp__either K) [] := by
  refine cal_of D sc__either (fun vs H Q E h => ?_) (fun f cdv A outer s H vs Q E hr h => ?_)
  · obtain ⟨_, _, rfl, _⟩ := h
    rfl
  refine ⟨_, (pss_one (ps_ret (C8.pe_c c_either hr (by decide) (by rfl) (pa_cons (pv 0) (pa_cons (pv 1) pa_nil))))), ?_⟩
  obtain ⟨x, y, rfl, _, q⟩ := h
  exact s_ret (ec_either (ev_var rfl) (ev_var rfl)) fun H2 e2 => q _ e2
theorem ok__same (D : Dn K mg "_same" s__same ["first", "second"]) (c_same : C8.Cal P w K mg base 3 "same" (sp_same K) []) :
    C8.Cal P w K mg base 4 "_same" (sp__same K) [] := by
  refine cal_of D sc__same (fun vs H Q E h => ?_) (fun f cdv A outer s H vs Q E hr h => ?_)
  · obtain ⟨_, _, rfl, _⟩ := h
    rfl
  refine ⟨_, (pss_one (ps_ret (C8.pe_c c_same hr (by decide) (by rfl) (pa_cons (pv 0) (pa_cons (pv 1) pa_nil))))), ?_⟩
  obtain ⟨x, y, rfl, ⟨hx, hy⟩, q⟩ := h
  exact s_ret (ec_same (ev_var rfl) (ev_var rfl) hx hy) fun H2 e2 => q _ e2
theorem ok__first_known (D : Dn K mg "_first_known" s__first_known ["first", "second"]) :
    C8.Cal P w K mg base 1 "_first_known" (sp__first_known K) [] := by
  refine cal_of D sc__first_known (fun vs H Q E h => ?_) (fun f cdv A outer s H vs Q E hr h => ?_)
  · obtain ⟨_, _, rfl, _⟩ := h
    rfl
  refine ⟨_, (pss_one (ps_ret (pe_ifExp (pt_cmpR op_isN (pv 0) pe_non (nomark _)) (pv 1) (pv 0)))), ?_⟩
  obtain ⟨x, y, rfl, _, q⟩ := h
  refine s_ret (v := knownV x y) (ev_if (b := decide (x = .non)) (by walk_at "et") (fun hb => ?_) fun hb => ?_) fun H2 e2 => q _ e2
  · refine ev_is (ev_var rfl) ?_
    unfold knownV
    rw [if_pos (of_decide_eq_true hb)]
  · refine ev_is (ev_var rfl) ?_
    unfold knownV
    rw [if_neg (of_decide_eq_false hb)]
theorem ok__equal (D : Dn K mg "_equal" s__equal ["first", "second"]) (c_same : C8.Cal P w K mg base 3 "same" (sp_same K) []) :
    C8.Cal P w K mg base 4 "_equal" (sp__equal K) [] := by
  refine cal_of D sc__equal (fun vs H Q E h => ?_) (fun f cdv A outer s H vs Q E hr h => ?_)
  · obtain ⟨_, _, rfl, _⟩ := h
    rfl
  refine ⟨_, (pss_one (ps_ret (C8.pe_c c_same hr (by decide) (by rfl) (pa_cons (pv 0) (pa_cons (pv 1) pa_nil))))), ?_⟩
  obtain ⟨x, y, rfl, ⟨hx, hy⟩, q⟩ := h
  exact s_ret (ec_same (ev_var rfl) (ev_var rfl) hx hy) fun H2 e2 => q _ e2
theorem ok__less (D : Dn K mg "_less" s__less ["first", "second"]) (c_before : C8.Cal P w K mg base 3 "before" (sp_before K) []) :
    C8.Cal P w K mg base 4 "_less" (sp__less K) [] := by
  refine cal_of D sc__less (fun vs H Q E h => ?_) (fun f cdv A outer s H vs Q E hr h => ?_)
  · obtain ⟨_, _, rfl, _⟩ := h
    rfl
  refine ⟨_, (pss_one (ps_ret (C8.pe_c c_before hr (by decide) (by rfl) (pa_cons (pv 0) (pa_cons (pv 1) pa_nil))))), ?_⟩
  obtain ⟨x, y, rfl, ⟨hx, hy⟩, q⟩ := h
  exact s_ret (ec_before (ev_var rfl) (ev_var rfl) hx hy) fun H2 e2 => q _ e2
theorem ok__at_most (D : Dn K mg "_at_most" s__at_most ["first", "second"]) (c_before : C8.Cal P w K mg base 3 "before" (sp_before K) []) :
    C8.Cal P w K mg base 4 "_at_most" (sp__at_most K) [] := by
  refine cal_of D sc__at_most (fun vs H Q E h => ?_) (fun f cdv A outer s H vs Q E hr h => ?_)
  · obtain ⟨_, _, rfl, _⟩ := h
    rfl
  refine ⟨_, (pss_one (ps_ret (pe_not (C8.pe_c c_before hr (by decide) (by rfl) (pa_cons (pv 1) (pa_cons (pv 0) pa_nil)))))), ?_⟩
  obtain ⟨x, y, rfl, ⟨hx, hy⟩, q⟩ := h
  exact s_ret (ev_notV (ec_before (ev_var rfl) (ev_var rfl) hy hx)) fun H2 e2 => q _ e2
theorem ok__least (D : Dn K mg "_least" s__least ["first", "second"]) (c_before : C8.Cal P w K mg base 3 "before" (sp_before K) []) :
    C8.Cal P w K mg base 4 "_least" (sp__least K) [] := by
  refine cal_of D sc__least (fun vs H Q E h => ?_) (fun f cdv A outer s H vs Q E hr h => ?_)
  · obtain ⟨_, _, rfl, _⟩ := h
    rfl
  refine ⟨_, (pss_one (ps_ret (pe_ifExp (pt_val (C8.pe_c c_before hr (by decide) (by rfl) (pa_cons (pv 1) (pa_cons (pv 0) pa_nil)))) (pv 1) (pv 0)))), ?_⟩
  obtain ⟨x, y, rfl, ⟨hx, hy⟩, q⟩ := h
  refine s_ret (v := leastV x y) (ev_if (et_B (ec_before (ev_var rfl) (ev_var rfl) hy hx)) (fun hb => ?_) fun hb => ?_) fun H2 e2 => q _ e2
  · refine ev_is (ev_var rfl) ?_
    unfold leastV
    rw [if_pos hb]
  · refine ev_is (ev_var rfl) ?_
    unfold leastV
    rw [if_neg (by rw [hb]; decide)]
theorem ok__greatest (D : Dn K mg "_greatest" s__greatest ["first", "second"]) (c_before : C8.Cal P w K mg base 3 "before" (sp_before K) []) :
    C8.Cal P w K mg base 4 "_greatest" (sp__greatest K) [] := by
  refine cal_of D sc__greatest (fun vs H Q E h => ?_) (fun f cdv A outer s H vs Q E hr h => ?_)
  · obtain ⟨_, _, rfl, _⟩ := h
    rfl
  refine ⟨_, (pss_one (ps_ret (pe_ifExp (pt_val (C8.pe_c c_before hr (by decide) (by rfl) (pa_cons (pv 0) (pa_cons (pv 1) pa_nil)))) (pv 1) (pv 0)))), ?_⟩
  obtain ⟨x, y, rfl, ⟨hx, hy⟩, q⟩ := h
  refine s_ret (v := greatV x y) (ev_if (et_B (ec_before (ev_var rfl) (ev_var rfl) hx hy)) (fun hb => ?_) fun hb => ?_) fun H2 e2 => q _ e2
  · refine ev_is (ev_var rfl) ?_
    unfold greatV
    rw [if_pos hb]
  · refine ev_is (ev_var rfl) ?_
    unfold greatV
    rw [if_neg (by rw [hb]; decide)]
theorem ok__add (D : Dn K mg "_add" s__add ["first", "second"]) (c_limited : C8.Cal P w K mg base 1 "limited" (sp_limited K) []) :
    C8.Cal P w K mg base 2 "_add" (sp__add K) [] := by
  refine cal_of D sc__add (fun vs H Q E h => ?_) (fun f cdv A outer s H vs Q E hr h => ?_)
  · obtain ⟨_, _, rfl, _⟩ := h
    rfl
  refine ⟨_, (pss_one (ps_ret (C8.pe_c c_limited hr (by decide) (by rfl) (pa_cons (pe_op op_add (pv 0) (pv 1)) pa_nil)))), ?_⟩
  obtain ⟨x, y, rfl, ⟨a, b, rfl, rfl, ha, hb⟩, q⟩ := h
  exact s_ret (ec_lim (ev_op (ev_var rfl) (ev_var rfl) rv_I0)) fun H2 e2 => q _ e2
theorem ok__subtract (D : Dn K mg "_subtract" s__subtract ["first", "second"]) (c_limited : C8.Cal P w K mg base 1 "limited" (sp_limited K) []) :
    C8.Cal P w K mg base 2 "_subtract" (sp__subtract K) [] := by
  refine cal_of D sc__subtract (fun vs H Q E h => ?_) (fun f cdv A outer s H vs Q E hr h => ?_)
  · obtain ⟨_, _, rfl, _⟩ := h
    rfl
  refine ⟨_, (pss_one (ps_ret (C8.pe_c c_limited hr (by decide) (by rfl) (pa_cons (pe_op op_sub (pv 0) (pv 1)) pa_nil)))), ?_⟩
  obtain ⟨x, y, rfl, ⟨a, b, rfl, rfl, ha, hb⟩, q⟩ := h
  exact s_ret (ec_lim (ev_op (ev_var rfl) (ev_var rfl) rv_I0)) fun H2 e2 => q _ e2
theorem ok__multiply (D : Dn K mg "_multiply" s__multiply ["first", "second"]) (c_limited : C8.Cal P w K mg base 1 "limited" (sp_limited K) []) :
    C8.Cal P w K mg base 2 "_multiply" (sp__multiply K) [] := by
  refine cal_of D sc__multiply (fun vs H Q E h => ?_) (fun f cdv A outer s H vs Q E hr h => ?_)
  · obtain ⟨_, _, rfl, _⟩ := h
    rfl
  refine ⟨_, (pss_one (ps_ret (C8.pe_c c_limited hr (by decide) (by rfl) (pa_cons (pe_op op_mulW (pv 0) (pv 1)) pa_nil)))), ?_⟩
  obtain ⟨x, y, rfl, ⟨a, b, rfl, rfl, ha, hb⟩, q⟩ := h
  exact s_ret (ec_lim (ev_op (ev_var rfl) (ev_var rfl) (rv_I (mul50 ha hb)))) fun H2 e2 => q _ e2
theorem ok__divide (D : Dn K mg "_divide" s__divide ["first", "second"]) (c_limited : C8.Cal P w K mg base 1 "limited" (sp_limited K) []) (c_quotient : C8.Cal P w K mg base 1 "quotient" (sp_quotient K) []) :
    C8.Cal P w K mg base 2 "_divide" (sp__divide K) [] := by
  refine cal_of D sc__divide (fun vs H Q E h => ?_) (fun f cdv A outer s H vs Q E hr h => ?_)
  · obtain ⟨_, _, rfl, _⟩ := h
    rfl
  refine ⟨_, (pss_one (ps_ret (pe_ifExp (pt_cmpR op_eq (pv 1) pe_int (nomark _)) pe_non (C8.pe_c c_limited hr (by decide) (by rfl) (pa_cons (C8.pe_c c_quotient hr (by decide) (by rfl) (pa_cons (pv 0) (pa_cons (pv 1) pa_nil))) pa_nil))))), ?_⟩
  obtain ⟨x, y, rfl, ⟨a, b, rfl, rfl, ha, hb⟩, q⟩ := h
  refine s_ret (v := divV (.int a) (.int b)) (ev_if (b := decide (V.int b = V.int 0)) (by walk_at "et") (fun hc => ?_) fun hc => ?_) fun H2 e2 => q _ e2
  · refine ev_is ev_c ?_
    unfold divV
    rw [if_pos (show iOf (.int b) = 0 from V.int.inj (of_decide_eq_true hc))]
  · have n0 : b ≠ 0 := fun e => of_decide_eq_false hc (by rw [e])
    refine ev_is (ec_lim (ec_quotient (bigM ha hb n0) (ev_var rfl) (ev_var rfl))) ?_
    unfold divV
    rw [if_neg (show ¬ iOf (.int b) = 0 from n0)]
    rfl
theorem ok__rest (D : Dn K mg "_rest" s__rest ["first", "second"]) (c_limited : C8.Cal P w K mg base 1 "limited" (sp_limited K) []) (c_quotient : C8.Cal P w K mg base 1 "quotient" (sp_quotient K) []) :
    C8.Cal P w K mg base 2 "_rest" (sp__rest K) [] := by
  refine cal_of D sc__rest (fun vs H Q E h => ?_) (fun f cdv A outer s H vs Q E hr h => ?_)
  · obtain ⟨_, _, rfl, _⟩ := h
    rfl
  refine ⟨_, (pss_one (ps_ret (pe_ifExp (pt_cmpR op_eq (pv 1) pe_int (nomark _)) pe_non (C8.pe_c c_limited hr (by decide) (by rfl) (pa_cons (pe_op op_sub (pv 0) (pe_op op_mulW (pv 1) (C8.pe_c c_quotient hr (by decide) (by rfl) (pa_cons (pv 0) (pa_cons (pv 1) pa_nil))))) pa_nil))))), ?_⟩
  obtain ⟨x, y, rfl, ⟨a, b, rfl, rfl, ha, hb⟩, q⟩ := h
  refine s_ret (v := restV (.int a) (.int b)) (ev_if (b := decide (V.int b = V.int 0)) (by walk_at "et") (fun hc => ?_) fun hc => ?_) fun H2 e2 => q _ e2
  · refine ev_is ev_c ?_
    unfold restV
    rw [if_pos (show iOf (.int b) = 0 from V.int.inj (of_decide_eq_true hc))]
  · have n0 : b ≠ 0 := fun e => of_decide_eq_false hc (by rw [e])
    have b2 : b.natAbs < 2 ^ 115 := by omega
    refine ev_is (ec_lim (ev_op (ev_var rfl) (ev_op (ev_var rfl) (ec_quotient (bigM ha hb n0) (ev_var rfl) (ev_var rfl)) (rv_I (wmul b2 (quo_bound (bigM ha hb n0))))) rv_I0)) ?_
    unfold restV
    rw [if_neg (show ¬ iOf (.int b) = 0 from n0)]
    rfl
theorem ok__multiply_decimals (D : Dn K mg "_multiply_decimals" s__multiply_decimals ["first", "second"]) (c_limited : C8.Cal P w K mg base 1 "limited" (sp_limited K) []) (c_rounded : C8.Cal P w K mg base 1 "rounded" (sp_rounded K) []) :
    C8.Cal P w K mg base 2 "_multiply_decimals" (sp__multiply_decimals K) [] := by
  refine cal_of D sc__multiply_decimals (fun vs H Q E h => ?_) (fun f cdv A outer s H vs Q E hr h => ?_)
  · obtain ⟨_, _, rfl, _⟩ := h
    rfl
  refine ⟨_, (pss_one (ps_ret (C8.pe_c c_limited hr (by decide) (by rfl) (pa_cons (C8.pe_c c_rounded hr (by decide) (by rfl) (pa_cons (pe_op op_mulW (pv 0) (pv 1)) (pa_cons pe_int pa_nil))) pa_nil)))), ?_⟩
  obtain ⟨x, y, rfl, ⟨a, b, rfl, rfl, ha, hb⟩, q⟩ := h
  have hm := mul100 ha hb
  exact s_ret (ec_lim (ec_rounded (n := a * b) (d := 10000) ⟨by omega, by omega, by decide, by decide, by decide⟩ (ev_op (ev_var rfl) (ev_var rfl) (rv_I (mul50 ha hb))) ev_c)) fun H2 e2 => q _ e2
theorem ok__divide_decimals (D : Dn K mg "_divide_decimals" s__divide_decimals ["first", "second"]) (c_limited : C8.Cal P w K mg base 1 "limited" (sp_limited K) []) (c_rounded : C8.Cal P w K mg base 1 "rounded" (sp_rounded K) []) :
    C8.Cal P w K mg base 2 "_divide_decimals" (sp__divide_decimals K) [] := by
  refine cal_of D sc__divide_decimals (fun vs H Q E h => ?_) (fun f cdv A outer s H vs Q E hr h => ?_)
  · obtain ⟨_, _, rfl, _⟩ := h
    rfl
  refine ⟨_, (pss_one (ps_ret (pe_ifExp (pt_cmpR op_eq (pv 1) pe_int (nomark _)) pe_non (C8.pe_c c_limited hr (by decide) (by rfl) (pa_cons (C8.pe_c c_rounded hr (by decide) (by rfl) (pa_cons (pe_op op_mul pe_int (pv 0)) (pa_cons (pv 1) pa_nil))) pa_nil))))), ?_⟩
  obtain ⟨x, y, rfl, ⟨a, b, rfl, rfl, ha, hb⟩, q⟩ := h
  refine s_ret (v := divDV (.int a) (.int b)) (ev_if (b := decide (V.int b = V.int 0)) (by walk_at "et") (fun hc => ?_) fun hc => ?_) fun H2 e2 => q _ e2
  · refine ev_is ev_c ?_
    unfold divDV
    rw [if_pos (show iOf (.int b) = 0 from V.int.inj (of_decide_eq_true hc))]
  · have n0 : b ≠ 0 := fun e => of_decide_eq_false hc (by rw [e])
    refine ev_is (ec_lim (ec_rounded (n := 10000 * a) (d := b) ⟨by omega, by omega, by omega, by omega, n0⟩ (ev_op ev_c (ev_var rfl) (rv_I (.inl ⟨by decide, by decide⟩))) (ev_var rfl))) ?_
    unfold divDV
    rw [if_neg (show ¬ iOf (.int b) = 0 from n0)]
    rfl
theorem ok__add_days (D : Dn K mg "_add_days" s__add_days ["day", "many"]) (c_is_day : C8.Cal P w K mg base 2 "is_day" (sp_is_day K) []) :
    C8.Cal P w K mg base 3 "_add_days" (sp__add_days K) [] := by
  refine cal_of D sc__add_days (fun vs H Q E h => ?_) (fun f cdv A outer s H vs Q E hr h => ?_)
  · obtain ⟨_, _, rfl, _⟩ := h
    rfl
  refine ⟨_, (pss_cons (ps_set (i := 2) sc__add_days.nd rfl (.inl rfl) (pe_op op_add (pv 0) (pv 1)))
    (pss_one (ps_ret (pe_ifExp (pt_val (C8.pe_c c_is_day hr (by decide) (by rfl) (pa_cons (pv 2) pa_nil))) (pv 2) pe_non)))), ?_⟩
  obtain ⟨x, y, rfl, ⟨a, b, rfl, rfl, ha, hb⟩, q⟩ := h
  refine q_asg (v := .int (a + b)) (by walk_at "ev") fun H1 e1 => ?_
  refine s_ret (v := daysV (.int a) (.int b)) (ev_if (et_B (ec_isday (ev_var rfl) (.int (a + b)))) (fun hc => ?_) fun hc => ?_) fun H2 e2 => q _ (e1.trans e2)
  · refine ev_is (ev_var rfl) ?_
    unfold daysV
    rw [if_pos (show isDay (.int (iOf (.int a) + iOf (.int b))) = true from hc)]
    rfl
  · refine ev_is ev_c ?_
    unfold daysV
    rw [if_neg (show ¬ isDay (.int (iOf (.int a) + iOf (.int b))) = true from fun z => by rw [show isDay (.int (a + b)) = true from z] at hc; cases hc)]
theorem ok__add_months (D : Dn K mg "_add_months" s__add_months ["day", "many"]) (c_date_of : C8.Cal P w K mg base 3 "date_of" (sp_date_of K) []) (c_day_of : C8.Cal P w K mg base 3 "day_of" (sp_day_of K) []) (c_month_length : C8.Cal P w K mg base 2 "month_length" (sp_month_length K) []) (z_divmod : mg "divmod" = none) (z_min : mg "min" = none) :
    C8.Cal P w K mg base 4 "_add_months" (sp__add_months K) [] := by
  refine cal_of D sc__add_months (fun vs H Q E h => ?_) (fun f cdv A outer s H vs Q E hr h => ?_)
  · obtain ⟨_, _, rfl, _⟩ := h
    rfl
  refine ⟨_, (pss_cons (ps_asg (C8.pe_c c_date_of hr (by decide) (by rfl) (pa_cons (pv 0) pa_nil)) (pg_tup rfl (pgs_cons (pg_name (i := 2) sc__add_months.nd rfl (.inl rfl)) (pgs_cons (pg_name (i := 3) sc__add_months.nd rfl (.inl rfl)) (pgs_cons (pg_name (i := 4) sc__add_months.nd rfl (.inl rfl)) pgs_nil)))))
    (pss_cons (ps_asg (pe_callB call_divmod (by rfl) z_divmod (by decide +kernel) (pa_cons (pe_op op_add (pe_op op_sub (pv 3) pe_int) (pv 1)) (pa_cons pe_int pa_nil))) (pg_tup rfl (pgs_cons (pg_name (i := 5) sc__add_months.nd rfl (.inl rfl)) (pgs_cons (pg_name (i := 6) sc__add_months.nd rfl (.inl rfl)) pgs_nil))))
    (pss_cons (ps_set (i := 3) sc__add_months.nd rfl (.inl rfl) (pe_op op_add (pv 6) pe_int))
    (pss_one (ps_ret (C8.pe_c c_day_of hr (by decide) (by rfl) (pa_cons (pe_op op_add (pv 2) (pv 5)) (pa_cons (pv 3) (pa_cons (pe_callB (call_min2 rfl) (by rfl) z_min (by decide +kernel) (pa_cons (pv 4) (pa_cons (C8.pe_c c_month_length hr (by decide) (by rfl) (pa_cons (pe_op op_add (pv 2) (pv 5)) (pa_cons (pv 3) pa_nil))) pa_nil))) pa_nil))))))))), ?_⟩
  obtain ⟨x, y, rfl, ⟨a, b, rfl, rfl, ha, hb⟩, q⟩ := h
  refine q_asgG (ec_date (ev_var rfl) ha) fun p H1 hp e1 h1 => gt3 (st_of h1) ?_
  refine q_asgG (eu_divmod (i := (dt a).2.1 - 1 + b) (j := 12) (by walk_at "ev") ev_c ⟨by decide, by decide⟩) fun p2 H2 hp2 e2 h2 => gt2 (st_of h2) ?_
  refine q_asg (v := .int (monM (dt a) b)) (by walk_at "ev") fun H3 e3 => ?_
  have hm : 1 ≤ monM (dt a) b ∧ monM (dt a) b ≤ 12 := by unfold monM; omega
  exact s_ret (v := monthsV (.int a) (.int b)) (ec_day (ev_op (ev_var rfl) (ev_var rfl) rv_I0) (ev_var rfl) (ev_min2 (ev_var rfl) (ec_mlen (ev_op (ev_var rfl) (ev_var rfl) rv_I0) (ev_var rfl) hm))) fun H4 e4 => q _ (((e1.trans e2).trans e3).trans e4)
theorem ok__are_alike (D : Dn K mg "_are_alike" s__are_alike ["first", "second"]) (c_kind_rank : C8.Cal P w K mg base 1 "kind_rank" (sp_kind_rank K) []) :
    C8.Cal P w K mg base 2 "_are_alike" (sp__are_alike K) [] := by
  refine cal_of D sc__are_alike (fun vs H Q E h => ?_) (fun f cdv A outer s H vs Q E hr h => ?_)
  · obtain ⟨_, _, rfl, _⟩ := h
    rfl
  refine ⟨_, (pss_one (ps_ret (pe_and (pe_cmpR op_notN (pv 0) pe_non (nomark _)) (pe_one (pe_cmpR op_eq (C8.pe_c c_kind_rank hr (by decide) (by rfl) (pa_cons (pv 0) pa_nil)) (C8.pe_c c_kind_rank hr (by decide) (by rfl) (pa_cons (pv 1) pa_nil)) (nomark _)))))), ?_⟩
  obtain ⟨x, y, rfl, hx, hy, q⟩ := h
  exact s_ret (v := .bl (alike x y)) (ev_andV (ev_op (ev_var rfl) ev_c rv_notN) fun _ => ev_op (ec_kr (ev_var rfl) hx) (ec_kr (ev_var rfl) hy) (rv_eq rfl)) fun H2 e2 => q _ e2
end

/-! ### the operation of a name -/
def isStr : V → Bool
  | .str _ => true
  | _ => false
theorem ev_isStr {K : PySem.W.Frag} {σ : L2.St} {H : Hp} {ta : TE} {x : V} (ha : Ev ta σ H x) (hx : Pl x) : Ev (tCB (rIsi K) (tCons ta (tCons (tC (.ty "str")) tNil))) σ H (.bl (isStr x)) := by
  cases hx with
  | non => exact ev_isiP (b := false) ha .non (by decide +kernel)
  | bl b => exact ev_isiP (b := false) ha (.bl b) (by show kitB "bool" "str" = some false; decide +kernel)
  | int i => exact ev_isiP (b := false) ha (.int i) (by show kitB "int" "str" = some false; decide +kernel)
  | str s => exact ev_isiP (b := true) ha (.str s) (by show kitB "str" "str" = some true; decide +kernel)
inductive Opr (P : Program) (w : World) (K : PySem.W.Frag) (mg : Str → Option Value) (base : Heap) (dA dL dI dT dD : Addr) : Str → V → V → V → Prop
  | any {nm : Str} {x y : V} {f : Addr} {pre : V → V → Prop} {op : V → V → V} : PySem.W.nsIn K dA nm = some (some (.ref f)) → L2.Held P w K mg base 4 f (spBin pre op) → pre x y → Opr P w K mg base dA dL dI dT dD nm x y (op x y)
  | alike {nm : Str} {x y : V} {f : Addr} {op : V → V → V} : PySem.W.nsIn K dA nm = some none → PySem.W.nsIn K dL nm = some (some (.ref f)) → L2.Held P w K mg base 4 f (spBin bothOk op) → Opr P w K mg base dA dL dI dT dD nm x y (if alike x y = true then op x y else .non)
  | ofInts {nm : Str} {x y : V} {f : Addr} {op : V → V → V} : PySem.W.nsIn K dA nm = some none → PySem.W.nsIn K dL nm = some none → PySem.W.nsIn K dI nm = some (some (.ref f)) → L2.Held P w K mg base 4 f (spBin twoInts op) → Opr P w K mg base dA dL dI dT dD nm x y (if (isInt x && isInt y) = true then op x y else .non)
  | texts {nm : Str} {x y : V} {f : Addr} : PySem.W.nsIn K dA nm = some none → PySem.W.nsIn K dL nm = some none → PySem.W.nsIn K dI nm = some none → PySem.W.nsIn K dT nm = some (some (.ref f)) → (isStr x && isStr y) = false → Opr P w K mg base dA dL dI dT dD nm x y .non
  | dates {nm : Str} {x y : V} {f : Addr} {op : V → V → V} : PySem.W.nsIn K dA nm = some none → PySem.W.nsIn K dL nm = some none → PySem.W.nsIn K dI nm = some none → PySem.W.nsIn K dT nm = some none → PySem.W.nsIn K dD nm = some (some (.ref f)) → L2.Held P w K mg base 4 f (spBin dayInt op) → Opr P w K mg base dA dL dI dT dD nm x y (if (isDay x && isInt y) = true then op x y else .non)
/-- what the document names -/
inductive OpN : Str → V → V → V → Prop
  | oAnd (x y : V) : OpN "and" x y (and3 x y)
  | oOr (x y : V) : OpN "or" x y (or3 x y)
  | oSame (x y : V) : OpN "same" x y (sameV x y)
  | oKnown (x y : V) : OpN "coalesce" x y (knownV x y)
  | oEqual (x y : V) : OpN "equal" x y (if alike x y = true then sameV x y else .non)
  | oLess (x y : V) : OpN "less" x y (if alike x y = true then lessV x y else .non)
  | oMost (x y : V) : OpN "at most" x y (if alike x y = true then mostV x y else .non)
  | oLeast (x y : V) : OpN "least" x y (if alike x y = true then leastV x y else .non)
  | oGreat (x y : V) : OpN "greatest" x y (if alike x y = true then greatV x y else .non)
  | oAdd (x y : V) : OpN "add" x y (if (isInt x && isInt y) = true then addV x y else .non)
  | oSub (x y : V) : OpN "subtract" x y (if (isInt x && isInt y) = true then subV x y else .non)
  | oMul (x y : V) : OpN "multiply" x y (if (isInt x && isInt y) = true then mulV x y else .non)
  | oDiv (x y : V) : OpN "divide" x y (if (isInt x && isInt y) = true then divV x y else .non)
  | oRest (x y : V) : OpN "rest" x y (if (isInt x && isInt y) = true then restV x y else .non)
  | oMulD (x y : V) : OpN "multiply decimals" x y (if (isInt x && isInt y) = true then mulDV x y else .non)
  | oDivD (x y : V) : OpN "divide decimals" x y (if (isInt x && isInt y) = true then divDV x y else .non)
  | oJoin (x y : V) (h : (isStr x && isStr y) = false) : OpN "join" x y .non
  | oLike (x y : V) (h : (isStr x && isStr y) = false) : OpN "like" x y .non
  | oPos (x y : V) (h : (isStr x && isStr y) = false) : OpN "position" x y .non
  | oDays (x y : V) : OpN "add days" x y (if (isDay x && isInt y) = true then daysV x y else .non)
  | oMonths (x y : V) : OpN "add months" x y (if (isDay x && isInt y) = true then monthsV x y else .non)
def sp_value_of_two (K : PySem.W.Frag) : Sp := fun vs H Q _ => ∃ (nm : Str) (x y z : V), vs = [.str nm, x, y] ∧ Sm x ∧ Sm y ∧ OpN nm x y z ∧ ∀ H', Ex H H' → Q z H'
def sp_binary (K : PySem.W.Frag) : Sp := fun vs H Q _ => ∃ (nm : Str) (x y z : V), vs = [.str nm, x, y] ∧ Sm x ∧ Sm y ∧ OpN nm x y z ∧ ∀ H', Ex H H' → Q z H'
theorem rv_inKD {K : PySem.W.Frag} {d : Addr} {z : Str} {r : Option Value} {H : Hp} (e : PySem.W.nsIn K d z = some r) : RV (fun x y H Q => ∃ (z : Str) (r : Option Value), x = .str z ∧ y = .ref d ∧ PySem.W.nsIn K d z = some r ∧ Q (.bl r.isSome) H) (.str z) (.ref d) H (.bl r.isSome) :=
  fun H1 _ _ q => ⟨z, r, rfl, rfl, e, q H1 (Ex.refl H1)⟩
theorem rv_ixKD {K : PySem.W.Frag} {w : World} {d : Addr} {es : Array DictEntry} {n : Nat} {z : Str} {u : Value} {v : V} {H : Hp} (D : KDict K w d es n) (e : PySem.W.nsIn K d z = some (some u)) (r : RelV v u) : RV (rIxD K w) (.ref d) (.str z) H v :=
  fun H1 _ _ q => ⟨d, z, v, rfl, rfl, ⟨es, n, u, D.at_, D.lit, e, r⟩, q H1 (Ex.refl H1)⟩
theorem ints_of {x y : V} (hx : Sm x) (hy : Sm y) (h : (isInt x && isInt y) = true) : twoInts x y := by
  cases hx <;> first | (simp [isInt] at h; done) | skip
  cases hy <;> first | (simp [isInt] at h; done) | skip
  exact ⟨_, _, rfl, rfl, by assumption, by assumption⟩
theorem day_of' {x y : V} (hx : Sm x) (hy : Sm y) (h : (isDay x && isInt y) = true) : dayInt x y := by
  cases hx <;> first | (simp [isDay] at h; done) | skip
  cases hy <;> first | (simp [isInt] at h; done) | skip
  rw [Bool.and_eq_true] at h
  rename_i i _ j hj
  have hd : (decide (-719162 ≤ i) && decide (i ≤ 2932896)) = true := h.1
  rw [Bool.and_eq_true, decide_eq_true_eq, decide_eq_true_eq] at hd
  exact ⟨_, _, rfl, rfl, hd, hj⟩
section
variable {P : Program} {w : World} {K : PySem.W.Frag} {mg : Str → Option Value} {base : Heap}
theorem ok_value_of_two (D : Dn K mg "value_of_two" s_value_of_two ["name", "first", "second"]) (c__are_alike : C8.Cal P w K mg base 2 "_are_alike" (sp__are_alike K) []) (c_is_day : C8.Cal P w K mg base 2 "is_day" (sp_is_day K) []) (c_is_integer : C8.Cal P w K mg base 1 "is_integer" (sp_is_integer K) []) (z_isinstance : mg "isinstance" = none) (z_str : mg "str" = none) {p__OF_ALIKE : Addr} {es__OF_ALIKE : Array DictEntry} {n__OF_ALIKE : Nat} (g__OF_ALIKE : ∃ u, mg "_OF_ALIKE" = some u ∧ RelV (.ref p__OF_ALIKE) u) (h__OF_ALIKE : KDict K w p__OF_ALIKE es__OF_ALIKE n__OF_ALIKE) {p__OF_ANY : Addr} {es__OF_ANY : Array DictEntry} {n__OF_ANY : Nat} (g__OF_ANY : ∃ u, mg "_OF_ANY" = some u ∧ RelV (.ref p__OF_ANY) u) (h__OF_ANY : KDict K w p__OF_ANY es__OF_ANY n__OF_ANY) {p__OF_DATES : Addr} {es__OF_DATES : Array DictEntry} {n__OF_DATES : Nat} (g__OF_DATES : ∃ u, mg "_OF_DATES" = some u ∧ RelV (.ref p__OF_DATES) u) (h__OF_DATES : KDict K w p__OF_DATES es__OF_DATES n__OF_DATES) {p__OF_INTEGERS : Addr} {es__OF_INTEGERS : Array DictEntry} {n__OF_INTEGERS : Nat} (g__OF_INTEGERS : ∃ u, mg "_OF_INTEGERS" = some u ∧ RelV (.ref p__OF_INTEGERS) u) (h__OF_INTEGERS : KDict K w p__OF_INTEGERS es__OF_INTEGERS n__OF_INTEGERS) {p__OF_TEXTS : Addr} {es__OF_TEXTS : Array DictEntry} {n__OF_TEXTS : Nat} (g__OF_TEXTS : ∃ u, mg "_OF_TEXTS" = some u ∧ RelV (.ref p__OF_TEXTS) u) (h__OF_TEXTS : KDict K w p__OF_TEXTS es__OF_TEXTS n__OF_TEXTS) (tab : ∀ nm x y z, Sm x → Sm y → OpN nm x y z → Opr P w K mg base p__OF_ANY p__OF_ALIKE p__OF_INTEGERS p__OF_TEXTS p__OF_DATES nm x y z) :
    C8.Cal P w K mg base 5 "value_of_two" (sp_value_of_two K) [] := by
  refine cal_of D sc_value_of_two (fun vs H Q E h => ?_) (fun f cdv A outer s H vs Q E hr h => ?_)
  · obtain ⟨_, _, _, _, rfl, _⟩ := h
    rfl
  refine ⟨_, (pss_cons (ps_if (pt_cmpR (op_in_kd h__OF_ANY) (pv 0) (C8.pe_gc rfl g__OF_ANY) (by with_unfolding_all rfl))
      (pss_cons (ps_set (i := 3) sc_value_of_two.nd rfl (.inl rfl) (pe_ix ix_kdict (C8.pe_gc rfl g__OF_ANY) (pv 0) (fun _ _ => rfl)))
    (pss_one (ps_ret (pe_callH (i := 3) hr rfl (Or.inl rfl) (pa_cons (pv 1) (pa_cons (pv 2) pa_nil))))))
      pss_nil)
    (pss_cons (ps_if (pt_cmpR (op_in_kd h__OF_ALIKE) (pv 0) (C8.pe_gc rfl g__OF_ALIKE) (by with_unfolding_all rfl))
      (pss_cons (ps_set (i := 3) sc_value_of_two.nd rfl (.inl rfl) (pe_ix ix_kdict (C8.pe_gc rfl g__OF_ALIKE) (pv 0) (fun _ _ => rfl)))
    (pss_one (ps_ret (pe_ifExp (pt_val (C8.pe_c c__are_alike hr (by decide) (by rfl) (pa_cons (pv 1) (pa_cons (pv 2) pa_nil)))) (pe_callH (i := 3) hr rfl (Or.inl rfl) (pa_cons (pv 1) (pa_cons (pv 2) pa_nil))) pe_non))))
      pss_nil)
    (pss_cons (ps_if (pt_cmpR (op_in_kd h__OF_INTEGERS) (pv 0) (C8.pe_gc rfl g__OF_INTEGERS) (by with_unfolding_all rfl))
      (pss_cons (ps_set (i := 3) sc_value_of_two.nd rfl (.inl rfl) (pe_ix ix_kdict (C8.pe_gc rfl g__OF_INTEGERS) (pv 0) (fun _ _ => rfl)))
    (pss_one (ps_ret (pe_ifExp (PW.pt (pw_and (pt_val (C8.pe_c c_is_integer hr (by decide) (by rfl) (pa_cons (pv 1) pa_nil))) (pw_and1 (pt_val (C8.pe_c c_is_integer hr (by decide) (by rfl) (pa_cons (pv 2) pa_nil)))))) (pe_callH (i := 3) hr rfl (Or.inl rfl) (pa_cons (pv 1) (pa_cons (pv 2) pa_nil))) pe_non))))
      pss_nil)
    (pss_cons (ps_if (pt_cmpR (op_in_kd h__OF_TEXTS) (pv 0) (C8.pe_gc rfl g__OF_TEXTS) (by with_unfolding_all rfl))
      (pss_cons (ps_set (i := 3) sc_value_of_two.nd rfl (.inl rfl) (pe_ix ix_kdict (C8.pe_gc rfl g__OF_TEXTS) (pv 0) (fun _ _ => rfl)))
    (pss_one (ps_ret (pe_ifExp (PW.pt (pw_and (pt_val (pe_callB call_isi (by rfl) z_isinstance (by decide +kernel) (pa_cons (pv 1) (pa_cons (pe_bltn (v := .ty "str") (u := .type "str") rfl z_str (by decide +kernel) rfl) pa_nil)))) (pw_and1 (pt_val (pe_callB call_isi (by rfl) z_isinstance (by decide +kernel) (pa_cons (pv 2) (pa_cons (pe_bltn (v := .ty "str") (u := .type "str") rfl z_str (by decide +kernel) rfl) pa_nil))))))) (pe_callH (i := 3) hr rfl (Or.inl rfl) (pa_cons (pv 1) (pa_cons (pv 2) pa_nil))) pe_non))))
      pss_nil)
    (pss_cons (ps_set (i := 3) sc_value_of_two.nd rfl (.inl rfl) (pe_ix ix_kdict (C8.pe_gc rfl g__OF_DATES) (pv 0) (fun _ _ => rfl)))
    (pss_one (ps_ret (pe_ifExp (PW.pt (pw_and (pt_val (C8.pe_c c_is_day hr (by decide) (by rfl) (pa_cons (pv 1) pa_nil))) (pw_and1 (pt_val (C8.pe_c c_is_integer hr (by decide) (by rfl) (pa_cons (pv 2) pa_nil)))))) (pe_callH (i := 3) hr rfl (Or.inl rfl) (pa_cons (pv 1) (pa_cons (pv 2) pa_nil))) pe_non)))))))), ?_⟩
  obtain ⟨nm, x, y, z, rfl, hx, hy, hop, q⟩ := h
  have T := tab nm x y z hx hy hop
  have plx := hx.ok.pl
  have ply := hy.ok.pl
  have no : ∀ {d : Addr} {H0 : Hp}, PySem.W.nsIn K d nm = some none → EvT (tTest (tOp (fun x y H Q => ∃ (z : Str) (r : Option Value), x = .str z ∧ y = .ref d ∧ PySem.W.nsIn K d z = some r ∧ Q (.bl r.isSome) H) (tVar 0) (tC (.ref d)))) (start n_value_of_two [.str nm, x, y]) H0 false := fun e => et_test (ev_op (ev_var rfl) ev_c (rv_inKD e))
  have yes : ∀ {d f : Addr} {H0 : Hp}, PySem.W.nsIn K d nm = some (some (.ref f)) → EvT (tTest (tOp (fun x y H Q => ∃ (z : Str) (r : Option Value), x = .str z ∧ y = .ref d ∧ PySem.W.nsIn K d z = some r ∧ Q (.bl r.isSome) H) (tVar 0) (tC (.ref d)))) (start n_value_of_two [.str nm, x, y]) H0 true := fun e => et_test (ev_op (ev_var rfl) ev_c (rv_inKD e))
  cases T with
  | any e1 hh hp =>
    refine q_when (yes e1) (fun _ H1 x1 => ?_) fun hb => nomatch hb
    refine q_asg (ev_op ev_c (ev_var rfl) (rv_ixKD (v := .ref _) h__OF_ANY e1 rfl)) fun H2 x2 => ?_
    exact s_ret (ec_held rfl hh hp (ev_var rfl) (ev_var rfl)) fun H3 x3 => q _ ((x1.trans x2).trans x3)
  | alike e1 e2 hh =>
    refine q_when (no e1) (fun hb => nomatch hb) fun _ H1 x1 => ?_
    refine q_when (yes e2) (fun _ H2 x2 => ?_) fun hb => nomatch hb
    refine q_asg (ev_op ev_c (ev_var rfl) (rv_ixKD (v := .ref _) h__OF_ALIKE e2 rfl)) fun H3 x3 => ?_
    refine s_ret (ev_if (et_B (ec_alike (ev_var rfl) (ev_var rfl) hx.ok hy.ok)) (fun hb => ?_) fun hb => ?_) fun H4 x4 => q _ (((x1.trans x2).trans x3).trans x4)
    · exact ev_is (ec_held rfl hh ⟨hx.ok, hy.ok⟩ (ev_var rfl) (ev_var rfl)) (by rw [if_pos hb])
    · exact ev_is ev_c (by rw [if_neg (by rw [hb]; decide)])
  | ofInts e1 e2 e3 hh =>
    refine q_when (no e1) (fun hb => nomatch hb) fun _ H1 x1 => ?_
    refine q_when (no e2) (fun hb => nomatch hb) fun _ H2 x2 => ?_
    refine q_when (yes e3) (fun _ H3 x3 => ?_) fun hb => nomatch hb
    refine q_asg (ev_op ev_c (ev_var rfl) (rv_ixKD (v := .ref _) h__OF_INTEGERS e3 rfl)) fun H4 x4 => ?_
    refine s_ret (ev_if (et_and (et_B (ec_isint0 (ev_var rfl) plx)) fun _ => et_B (ec_isint0 (ev_var rfl) ply)) (fun hb => ?_) fun hb => ?_) fun H5 x5 => q _ ((((x1.trans x2).trans x3).trans x4).trans x5)
    · exact ev_is (ec_held rfl hh (ints_of hx hy hb) (ev_var rfl) (ev_var rfl)) (by rw [if_pos hb])
    · exact ev_is ev_c (by rw [if_neg (by rw [hb]; decide)])
  | texts e1 e2 e3 e4 hn =>
    refine q_when (no e1) (fun hb => nomatch hb) fun _ H1 x1 => ?_
    refine q_when (no e2) (fun hb => nomatch hb) fun _ H2 x2 => ?_
    refine q_when (no e3) (fun hb => nomatch hb) fun _ H3 x3 => ?_
    refine q_when (yes e4) (fun _ H4 x4 => ?_) fun hb => nomatch hb
    refine q_asg (ev_op ev_c (ev_var rfl) (rv_ixKD (v := .ref _) h__OF_TEXTS e4 rfl)) fun H5 x5 => ?_
    refine s_ret (ev_if (et_and (et_B (ev_isStr (ev_var rfl) plx)) fun _ => et_B (ev_isStr (ev_var rfl) ply)) (fun hb => ?_) fun hb => ev_c) fun H6 x6 => q _ (((((x1.trans x2).trans x3).trans x4).trans x5).trans x6)
    rw [hn] at hb
    cases hb
  | dates e1 e2 e3 e4 e5 hh =>
    refine q_when (no e1) (fun hb => nomatch hb) fun _ H1 x1 => ?_
    refine q_when (no e2) (fun hb => nomatch hb) fun _ H2 x2 => ?_
    refine q_when (no e3) (fun hb => nomatch hb) fun _ H3 x3 => ?_
    refine q_when (no e4) (fun hb => nomatch hb) fun _ H4 x4 => ?_
    refine q_asg (ev_op ev_c (ev_var rfl) (rv_ixKD (v := .ref _) h__OF_DATES e5 rfl)) fun H5 x5 => ?_
    refine s_ret (ev_if (et_and (et_B (ec_isday (ev_var rfl) plx)) fun _ => et_B (ec_isint0 (ev_var rfl) ply)) (fun hb => ?_) fun hb => ?_) fun H6 x6 => q _ (((((x1.trans x2).trans x3).trans x4).trans x5).trans x6)
    · exact ev_is (ec_held rfl hh (day_of' hx hy hb) (ev_var rfl) (ev_var rfl)) (by rw [if_pos hb])
    · exact ev_is ev_c (by rw [if_neg (by rw [hb]; decide)])
section
variable {σ : L2.St} {H : Hp} {ta tb tc : TE} {E : XK} {x y z : V} {nm : Str}
theorem ec_two (h : OpN nm x y z) (h1 : Sm x) (h2 : Sm y) (ha : Ev ta σ H (.str nm)) (hb : Ev tb σ H x) (hc : Ev tc σ H y) : Ev (tCall (sp_value_of_two K) [] E (tCons ta (tCons tb (tCons tc tNil)))) σ H z := ev_call (ea_cons ha (ea_cons hb (ea_cons hc ea_nil))) fun H1 e Q q E => ⟨nm, x, y, z, rfl, h1, h2, h, q⟩
theorem ec_binary (h : OpN nm x y z) (h1 : Sm x) (h2 : Sm y) (ha : Ev ta σ H (.str nm)) (hb : Ev tb σ H x) (hc : Ev tc σ H y) : Ev (tCall (sp_binary K) [] E (tCons ta (tCons tb (tCons tc tNil)))) σ H z := ev_call (ea_cons ha (ea_cons hb (ea_cons hc ea_nil))) fun H1 e Q q E => ⟨nm, x, y, z, rfl, h1, h2, h, q⟩
end
theorem ok_binary (D : Dn K mg "binary" s_binary ["name", "first", "second"]) (c_value_of_two : C8.Cal P w K mg base 5 "value_of_two" (sp_value_of_two K) []) :
    C8.Cal P w K mg base 6 "binary" (sp_binary K) [] := by
  refine cal_of D sc_binary (fun vs H Q E h => ?_) (fun f cdv A outer s H vs Q E hr h => ?_)
  · obtain ⟨_, _, _, _, rfl, _⟩ := h
    rfl
  refine ⟨_, (pss_one (ps_ret (C8.pe_c c_value_of_two hr (by decide) (by rfl) (pa_cons (pv 0) (pa_cons (pv 1) (pa_cons (pv 2) pa_nil)))))), ?_⟩
  obtain ⟨nm, x, y, z, rfl, hx, hy, hop, q⟩ := h
  exact s_ret (ec_two hop hx hy (ev_var rfl) (ev_var rfl) (ev_var rfl)) fun H2 e2 => q _ e2
end

/-! ### what the law reckons -/
def dS (nm l : Str) : Bool := decide (V.str nm = V.str l)
def leV (x y : V) : Bool := if kr x = kr y then (if eqV (payV x) (payV y) = true then true else leI (payV x) (payV y)) else decide (kr x ≤ kr y)
def cmpV (nm : Str) (x y : V) : V :=
  if dS nm "same" = true then sameV x y else if (!decide (V.int (kr x) = V.int (kr y)) || decide (V.int (kr x) = V.int 0)) = true then .non else if dS nm "equal" = true then sameV x y
  else if dS nm "less" = true then lessV x y else if dS nm "at most" = true then .bl (leV x y) else if dS nm "least" = true then leastV x y else greatV x y
def reckV (nm : Str) (a b : Int) : V :=
  if dS nm "add" = true then limV (a + b) else if dS nm "subtract" = true then limV (a - b) else if dS nm "multiply" = true then limV (a * b) else if dS nm "multiply decimals" = true then limV (rnd (a * b) 10000)
  else if decide (V.int b = V.int 0) = true then .non else if dS nm "divide" = true then limV (quo a b) else if dS nm "rest" = true then limV (a - b * quo a b) else limV (rnd (10000 * a) b)
noncomputable def datedV (nm : Str) (x y : V) : V := if (isDay x && isInt y) = true then (if dS nm "add days" = true then daysV x y else monthsV x y) else .non
def cmpL : List V := [.str "equal", .str "less", .str "at most", .str "same", .str "least", .str "greatest"]
def datL : List V := [.str "add days", .str "add months"]
def txtL : List V := [.str "join", .str "like", .str "position"]
noncomputable def dueV (nm : Str) (x y : V) : V :=
  if dS nm "and" = true then and3 x y else if dS nm "or" = true then or3 x y else if dS nm "coalesce" = true then knownV x y else if inV (.str nm) cmpL = true then cmpV nm x y
  else if inV (.str nm) datL = true then datedV nm x y else if (!isInt x || !isInt y) = true then .non else reckV nm (iOf x) (iOf y)
def sp__law_told (K : PySem.W.Frag) : Sp := fun vs H Q _ => ∃ x : V, vs = [x, x] ∧ Ok x ∧ ∀ H', Ex H H' → Q (.bl true) H'
def sp__law_compared (K : PySem.W.Frag) : Sp := fun vs H Q _ => ∃ (nm : Str) (x y : V), vs = [.str nm, x, y] ∧ Ok x ∧ Ok y ∧ ∀ H', Ex H H' → Q (cmpV nm x y) H'
def sp__law_reckoned (K : PySem.W.Frag) : Sp := fun vs H Q _ => ∃ (nm : Str) (x y : V), vs = [.str nm, x, y] ∧ twoInts x y ∧ ∀ H', Ex H H' → Q (reckV nm (iOf x) (iOf y)) H'
noncomputable def sp__law_dated (K : PySem.W.Frag) : Sp := fun vs H Q _ => ∃ (nm : Str) (x y : V), vs = [.str nm, x, y] ∧ Sm x ∧ Sm y ∧ ∀ H', Ex H H' → Q (datedV nm x y) H'
noncomputable def sp__law_due (K : PySem.W.Frag) : Sp := fun vs H Q _ => ∃ (nm : Str) (x y : V), vs = [.str nm, x, y] ∧ Sm x ∧ Sm y ∧ ∀ H', Ex H H' → Q (dueV nm x y) H'
def sp_law (K : PySem.W.Frag) : Sp := fun vs H Q _ => ∃ (a : Addr) (ns : List Int), vs = [.ref a] ∧ SqL K H a (ns.map V.int) ∧ ns.length ≤ 63 ∧ ∀ H', Q (.bl true) H'
theorem sp_law_of {K : PySem.W.Frag} {H : Hp} {a : Addr} {ns : List Int} (hl : ns.length ≤ 63) (hS : SqL K H a (ns.map V.int)) : sp_law K [.ref a] H (fun v _ => v = .bl true) fun _ _ _ => False :=
  ⟨a, ns, rfl, hS, hl, fun _ => rfl⟩
theorem flat_pay {x : V} (h : Ok x) : flatV (payV x) = true := by cases h <;> rfl
theorem ok_pay {x y : V} (hx : Ok x) (hy : Ok y) (e : kr x = kr y) : okI (payV x) (payV y) = true := by
  cases hx <;> cases hy <;> first | (simp [kr] at e; done) | rfl
theorem rv_le2 {K : PySem.W.Frag} {H : Hp} {p q : Addr} {x y : V} (hp : SqT K H p (rkL x)) (hq : SqT K H q (rkL y)) (hx : Ok x) (hy : Ok y) : RV (rLe2 K) (.ref p) (.ref q) H (.bl (leV x y)) := fun H1 e Q k =>
  ⟨p, q, kr x, kr y, payV x, payV y, rfl, rfl, ex_t e hp, ex_t e hq, flat_pay hx, flat_pay hy, fun e _ => ok_pay hx hy e, k H1 (Ex.refl H1)⟩
theorem two_at {x y : V} {b : Bool} : atI [x, y] (if b = true then 1 else 0) = some (if b = true then y else x) := by
  cases b
  · exact atI_nat (j := 0) rfl
  · exact atI_nat (j := 1) rfl
theorem out_year {y m d : Int} (h : ¬ (1 ≤ y ∧ y ≤ 9999)) : dayV y m d = .non := by
  unfold dayV
  rw [if_neg fun z => h z.1]
section
variable {P : Program} {w : World} {K : PySem.W.Frag} {mg : Str → Option Value} {base : Heap}
section
variable {σ : L2.St} {H : Hp} {ta tb tc : TE} {E : XK} {x y z : V} {nm : Str}
theorem ec_told (h : Ok x) (ha : Ev ta σ H x) (hb : Ev tb σ H x) : Ev (tCall (sp__law_told K) [] E (tCons ta (tCons tb tNil))) σ H (.bl true) := ev_call (ea_cons ha (ea_cons hb ea_nil)) fun H1 e Q q E => ⟨x, rfl, h, q⟩
theorem ec_cmp (h1 : Ok x) (h2 : Ok y) (ha : Ev ta σ H (.str nm)) (hb : Ev tb σ H x) (hc : Ev tc σ H y) : Ev (tCall (sp__law_compared K) [] E (tCons ta (tCons tb (tCons tc tNil)))) σ H (cmpV nm x y) := ev_call (ea_cons ha (ea_cons hb (ea_cons hc ea_nil))) fun H1 e Q q E => ⟨nm, x, y, rfl, h1, h2, q⟩
theorem ec_reck (h : twoInts x y) (ha : Ev ta σ H (.str nm)) (hb : Ev tb σ H x) (hc : Ev tc σ H y) : Ev (tCall (sp__law_reckoned K) [] E (tCons ta (tCons tb (tCons tc tNil)))) σ H (reckV nm (iOf x) (iOf y)) := ev_call (ea_cons ha (ea_cons hb (ea_cons hc ea_nil))) fun H1 e Q q E => ⟨nm, x, y, rfl, h, q⟩
theorem ec_dated (h1 : Sm x) (h2 : Sm y) (ha : Ev ta σ H (.str nm)) (hb : Ev tb σ H x) (hc : Ev tc σ H y) : Ev (tCall (sp__law_dated K) [] E (tCons ta (tCons tb (tCons tc tNil)))) σ H (datedV nm x y) := ev_call (ea_cons ha (ea_cons hb (ea_cons hc ea_nil))) fun H1 e Q q E => ⟨nm, x, y, rfl, h1, h2, q⟩
theorem ec_due (h1 : Sm x) (h2 : Sm y) (ha : Ev ta σ H (.str nm)) (hb : Ev tb σ H x) (hc : Ev tc σ H y) : Ev (tCall (sp__law_due K) [] E (tCons ta (tCons tb (tCons tc tNil)))) σ H (dueV nm x y) := ev_call (ea_cons ha (ea_cons hb (ea_cons hc ea_nil))) fun H1 e Q q E => ⟨nm, x, y, rfl, h1, h2, q⟩
theorem el_catN {l : Addr} {xs ys : List V} (ha : Ev ta σ H (.ref l)) (h1 : H l = some (.lst xs)) (hb : EvL tb σ H ys) (hz : xs.length + ys.length ≤ 100000) : EvL (tOp rCat ta tb) σ H (xs ++ ys) := fun H1 e Q q =>
  ha H1 e _ fun H2 e2 => hb H2 (e.trans e2) _ fun b H3 _ e3 hb3 => ⟨l, b, xs, ys, rfl, rfl, ((e.trans e2).trans e3) _ _ h1, hb3, sz_of hz, fun p hp => q p _ (fresh_back (e2.trans e3) hp) ((e2.trans e3).trans (Ex.new hp)) upd_same⟩
theorem dp_strs : ∀ {l : List Str} {H : Hp}, DpAll K H (l.map V.str) (l.map PyData.str)
  | [], _ => .nil
  | x :: l, _ => .cons (.str x) dp_strs
theorem ed_strs {l : List Str} (h : EvL ta σ H (l.map V.str)) : EvD K ta σ H (.list (l.map PyData.str)) := fun H1 e Q q => h H1 e _ fun p H2 _ e2 h2 => q (.ref p) H2 e2 (.lst (sq_of h2) dp_strs)
theorem el_listT {p : Addr} {xs : List V} (ha : Ev ta σ H (.ref p)) (h : ∀ H1, SqT K H1 p xs) : EvL (tCB (fun xs H Q => ∃ p ys, xs = [.ref p] ∧ (SqL K H p ys ∨ SqT K H p ys) ∧ ∀ l, H l = none → Q (.ref l) (upd H l (.lst ys))) (tCons ta tNil)) σ H xs := fun H1 e Q q =>
  ha H1 e _ fun H2 e2 => ⟨p, xs, rfl, Or.inr (h H2), fun l hl => q l _ (fresh_back e2 hl) (e2.trans (Ex.new hl)) upd_same⟩
end
theorem ok__law_told (D : Dn K mg "_law_told" s__law_told ["told", "due"]) (c__law_is_integer : C8.Cal P w K mg base 1 "_law_is_integer" (sp__law_is_integer K) []) (c__law_rank : C8.Cal P w K mg base 1 "_law_rank" (sp__law_rank K) []) (z_bool : mg "bool" = none) (z_isinstance : mg "isinstance" = none) (z_str : mg "str" = none) :
    C8.Cal P w K mg base 2 "_law_told" (sp__law_told K) [] := by
  refine cal_of D sc__law_told (fun vs H Q E h => ?_) (fun f cdv A outer s H vs Q E hr h => ?_)
  · obtain ⟨_, rfl, _⟩ := h
    rfl
  refine ⟨_, (pss_cons (ps_if (pt_cmpR (op_neD (hu64 hr)) (C8.pe_c c__law_rank hr (by decide) (by rfl) (pa_cons (pv 0) pa_nil)) (C8.pe_c c__law_rank hr (by decide) (by rfl) (pa_cons (pv 1) pa_nil)) (nomark _))
      (pss_one (ps_ret pe_bl))
      pss_nil)
    (pss_one (ps_ret (pe_or (pe_cmpR op_isN (pv 1) pe_non (nomark _)) (pe_or (pe_callB call_isi (by rfl) z_isinstance (by decide +kernel) (pa_cons (pv 1) (pa_cons (pe_bltn (v := .ty "str") (u := .type "str") rfl z_str (by decide +kernel) rfl) pa_nil))) (pe_or (pe_callB call_isi (by rfl) z_isinstance (by decide +kernel) (pa_cons (pv 1) (pa_cons (pe_bltn (v := .ty "bool") (u := .type "bool") rfl z_bool (by decide +kernel) rfl) pa_nil))) (pe_one (C8.pe_c c__law_is_integer hr (by decide) (by rfl) (pa_cons (pv 0) pa_nil))))))))), ?_⟩
  obtain ⟨x, rfl, hx, q⟩ := h
  have er : PyData.eqv (rkD x) (rkD x) = true := PySem.SeqAt.eqv_refl _ (lay_rk hx)
  refine q_when (b := !PyData.eqv (rkD x) (rkD x)) (et_test (ev_neD (ed_rk (ec_lrank (ev_var rfl) hx) hx) (ed_rk (ec_lrank (ev_var rfl) hx) hx) (shaped_rk hx) (shaped_rk hx))) (fun hb => by rw [er] at hb; cases hb) fun _ H1 e1 => ?_
  refine s_ret (v := .bl true) ?_ fun H2 e2 => q _ (e1.trans e2)
  cases hx with
  | non => exact ev_is (ev_orV (b := true) (ev_op (ev_var rfl) ev_c rv_isN) fun z => nomatch z) rfl
  | str s hs => exact ev_is (ev_orV (ev_op (ev_var rfl) ev_c rv_isN) fun _ => ev_orV (b := true) (ev_isStr (ev_var rfl) (.str s)) fun z => nomatch z) rfl
  | bl b => exact ev_is (ev_orV (ev_op (ev_var rfl) ev_c rv_isN) fun _ => ev_orV (ev_isStr (ev_var rfl) (.bl b)) fun _ => ev_orV (a := true) (b := true) (ev_isiP (ev_var rfl) (.bl b) (by show kitB "bool" "bool" = some true; decide +kernel)) fun z => nomatch z) rfl
  | int i => exact ev_is (ev_orV (ev_op (ev_var rfl) ev_c rv_isN) fun _ => ev_orV (ev_isStr (ev_var rfl) (.int i)) fun _ => ev_orV (a := false) (ev_isiP (ev_var rfl) (.int i) (by show kitB "int" "bool" = some false; decide +kernel)) fun _ => ec_isint (ev_var rfl) (.int i)) rfl
theorem ok__law_compared (D : Dn K mg "_law_compared" s__law_compared ["name", "first", "second"]) (c__law_rank : C8.Cal P w K mg base 1 "_law_rank" (sp__law_rank K) []) (z_int : mg "int" = none) :
    C8.Cal P w K mg base 2 "_law_compared" (sp__law_compared K) [] := by
  refine cal_of D sc__law_compared (fun vs H Q E h => ?_) (fun f cdv A outer s H vs Q E hr h => ?_)
  · obtain ⟨_, _, _, rfl, _⟩ := h
    rfl
  refine ⟨_, (pss_cons (ps_set (i := 3) sc__law_compared.nd rfl (.inl rfl) (C8.pe_c c__law_rank hr (by decide) (by rfl) (pa_cons (pv 1) pa_nil)))
    (pss_cons (ps_set (i := 4) sc__law_compared.nd rfl (.inl rfl) (C8.pe_c c__law_rank hr (by decide) (by rfl) (pa_cons (pv 2) pa_nil)))
    (pss_cons (ps_if (pt_cmpR op_eq (pv 0) pe_str (nomark _))
      (pss_one (ps_ret (pe_cmpR (op_eqD (hu64 hr)) (pv 3) (pv 4) (nomark _))))
      pss_nil)
    (pss_cons (ps_if (PW.pt (pw_or (pt_cmpR op_ne (pe_ix ix_tup (pv 3) pe_int (fun _ _ => rfl)) (pe_ix ix_tup (pv 4) pe_int (fun _ _ => rfl)) (nomark _)) (pw_or1 (pt_cmpR op_eq (pe_ix ix_tup (pv 3) pe_int (fun _ _ => rfl)) pe_int (nomark _)))))
      (pss_one (ps_ret pe_non))
      pss_nil)
    (pss_cons (ps_if (pt_cmpR op_eq (pv 0) pe_str (nomark _))
      (pss_one (ps_ret (pe_cmpR (op_eqD (hu64 hr)) (pv 3) (pv 4) (nomark _))))
      pss_nil)
    (pss_cons (ps_if (pt_cmpR op_eq (pv 0) pe_str (nomark _))
      (pss_one (ps_ret (pe_cmpR (op_ltD (hu64 hr)) (pv 3) (pv 4) (nomark _))))
      pss_nil)
    (pss_cons (ps_if (pt_cmpR op_eq (pv 0) pe_str (nomark _))
      (pss_one (ps_ret (pe_cmpR (op_le2 (hu64 hr)) (pv 3) (pv 4) (nomark _))))
      pss_nil)
    (pss_cons (ps_if (pt_cmpR op_eq (pv 0) pe_str (nomark _))
      (pss_one (ps_ret (pe_ix ix_list (pe_lst (pa_cons (pv 1) (pa_cons (pv 2) pa_nil))) (pe_callTy call_int1 (by rfl) z_int (by decide +kernel) (pa_cons (pe_cmpR (op_ltD (hu64 hr)) (pv 4) (pv 3) (nomark _)) pa_nil)) (fun _ _ => rfl))))
      pss_nil)
    (pss_one (ps_ret (pe_ix ix_list (pe_lst (pa_cons (pv 1) (pa_cons (pv 2) pa_nil))) (pe_callTy call_int1 (by rfl) z_int (by decide +kernel) (pa_cons (pe_cmpR (op_ltD (hu64 hr)) (pv 3) (pv 4) (nomark _)) pa_nil)) (fun _ _ => rfl)))))))))))), ?_⟩
  obtain ⟨nm, x, y, rfl, hx, hy, q⟩ := h
  refine q_asgU (ec_lrank (ev_var rfl) hx) fun p1 H1 hp1 e1 h1 => ?_
  refine q_asgU (ec_lrank (ev_var rfl) hy) fun p2 H2 hp2 e2 h2 => ?_
  have h1' := e2 _ _ h1
  have x2 := e1.trans e2
  have ax0 : atI (rkL x) 0 = some (.int (kr x)) := atI_nat (j := 0) rfl
  have ay0 : atI (rkL y) 0 = some (.int (kr y)) := atI_nat (j := 0) rfl
  have dx : ∀ {H3 : Hp}, Ex H2 H3 → Dp K H3 (.ref p1) (rkD x) := fun e => dp_rk hx (e _ _ h1')
  have dy : ∀ {H3 : Hp}, Ex H2 H3 → Dp K H3 (.ref p2) (rkD y) := fun e => dp_rk hy (e _ _ h2)
  have dd : (rkD x).depth ≤ 60 := by rw [dep_rk hx]; decide
  have dd2 : (rkD y).depth ≤ 60 := by rw [dep_rk hy]; decide
  unfold cmpV at q
  refine q_when (b := dS nm "same") (et_test (ev_op (ev_var rfl) ev_c (rv_eq rfl))) (fun hb H3 e3 => ?_) fun hb H3 e3 => ?_
  · rw [if_pos hb] at q
    exact s_ret (ev_eqD (ed_val (ev_var rfl) (dx e3)) (ed_val (ev_var rfl) (dy e3)) (shaped_rk hx) (shaped_rk hy)) fun H4 e4 => q _ ((x2.trans e3).trans e4)
  rw [if_neg (by rw [hb]; decide)] at q
  refine q_when (b := !decide (V.int (kr x) = V.int (kr y)) || decide (V.int (kr x) = V.int 0)) (et_or (et_test (ev_op (ev_op (ev_var rfl) ev_c (rv_ixT (st_of (e3 _ _ h1')) ax0)) (ev_op (ev_var rfl) ev_c (rv_ixT (st_of (e3 _ _ h2)) ay0)) (rv_ne rfl))) fun _ => et_test (ev_op (ev_op (ev_var rfl) ev_c (rv_ixT (st_of (e3 _ _ h1')) ax0)) ev_c (rv_eq rfl))) (fun hc H4 e4 => ?_) fun hc H4 e4 => ?_
  · rw [if_pos hc] at q
    exact s_ret ev_c fun H5 e5 => q _ (((x2.trans e3).trans e4).trans e5)
  rw [if_neg (by rw [hc]; decide)] at q
  have x4 := (x2.trans e3).trans e4
  have y4 := e3.trans e4
  refine q_when (b := dS nm "equal") (et_test (ev_op (ev_var rfl) ev_c (rv_eq rfl))) (fun hb H5 e5 => ?_) fun hb H5 e5 => ?_
  · rw [if_pos hb] at q
    exact s_ret (ev_eqD (ed_val (ev_var rfl) (dx (y4.trans e5))) (ed_val (ev_var rfl) (dy (y4.trans e5))) (shaped_rk hx) (shaped_rk hy)) fun H6 e6 => q _ ((x4.trans e5).trans e6)
  rw [if_neg (by rw [hb]; decide)] at q
  refine q_when (b := dS nm "less") (et_test (ev_op (ev_var rfl) ev_c (rv_eq rfl))) (fun hb H6 e6 => ?_) fun hb H6 e6 => ?_
  · rw [if_pos hb] at q
    exact s_ret (ev_ltD (ed_val (ev_var rfl) (dx ((y4.trans e5).trans e6))) (ed_val (ev_var rfl) (dy ((y4.trans e5).trans e6))) (shaped_rk hx) (shaped_rk hy) (ord_rk hx hy) dd) fun H7 e7 => q _ (((x4.trans e5).trans e6).trans e7)
  rw [if_neg (by rw [hb]; decide)] at q
  have x6 := (x4.trans e5).trans e6
  have y6 := (y4.trans e5).trans e6
  refine q_when (b := dS nm "at most") (et_test (ev_op (ev_var rfl) ev_c (rv_eq rfl))) (fun hb H7 e7 => ?_) fun hb H7 e7 => ?_
  · rw [if_pos hb] at q
    exact s_ret (ev_op (ev_var rfl) (ev_var rfl) (rv_le2 (st_of ((y6.trans e7) _ _ h1')) (st_of ((y6.trans e7) _ _ h2)) hx hy)) fun H8 e8 => q _ ((x6.trans e7).trans e8)
  rw [if_neg (by rw [hb]; decide)] at q
  refine q_when (b := dS nm "least") (et_test (ev_op (ev_var rfl) ev_c (rv_eq rfl))) (fun hb H8 e8 => ?_) fun hb H8 e8 => ?_
  · rw [if_pos hb] at q
    exact s_ret (v := leastV x y) (ev_opL1 (xs := [x, y]) (el_lst (ea_cons (ev_var rfl) (ea_cons (ev_var rfl) ea_nil)) (by show 2 ≤ 100000; decide)) (fun H9 e9 => ev_intB (ev_ltD (ed_val (ev_var rfl) (dy ((y6.trans e7).trans (e8.trans e9)))) (ed_val (ev_var rfl) (dx ((y6.trans e7).trans (e8.trans e9)))) (shaped_rk hy) (shaped_rk hx) (ord_rk hy hx) dd2)) fun p H9 hp e9 => rv_ixL (sq_of hp) two_at) fun H9 e9 => q _ (((x6.trans e7).trans e8).trans e9)
  · rw [if_neg (by rw [hb]; decide)] at q
    exact s_ret (v := greatV x y) (ev_opL1 (xs := [x, y]) (el_lst (ea_cons (ev_var rfl) (ea_cons (ev_var rfl) ea_nil)) (by show 2 ≤ 100000; decide)) (fun H9 e9 => ev_intB (ev_ltD (ed_val (ev_var rfl) (dx ((y6.trans e7).trans (e8.trans e9)))) (ed_val (ev_var rfl) (dy ((y6.trans e7).trans (e8.trans e9)))) (shaped_rk hx) (shaped_rk hy) (ord_rk hx hy) dd)) fun p H9 hp e9 => rv_ixL (sq_of hp) two_at) fun H9 e9 => q _ (((x6.trans e7).trans e8).trans e9)
theorem ok__law_reckoned (D : Dn K mg "_law_reckoned" s__law_reckoned ["name", "first", "second"]) (c_limited : C8.Cal P w K mg base 1 "limited" (sp_limited K) []) (c_quotient : C8.Cal P w K mg base 1 "quotient" (sp_quotient K) []) (c_rounded : C8.Cal P w K mg base 1 "rounded" (sp_rounded K) []) :
    C8.Cal P w K mg base 2 "_law_reckoned" (sp__law_reckoned K) [] := by
  refine cal_of D sc__law_reckoned (fun vs H Q E h => ?_) (fun f cdv A outer s H vs Q E hr h => ?_)
  · obtain ⟨_, _, _, rfl, _⟩ := h
    rfl
  refine ⟨_, (pss_cons (ps_if (pt_cmpR op_eq (pv 0) pe_str (nomark _))
      (pss_one (ps_ret (C8.pe_c c_limited hr (by decide) (by rfl) (pa_cons (pe_op op_add (pv 1) (pv 2)) pa_nil))))
      pss_nil)
    (pss_cons (ps_if (pt_cmpR op_eq (pv 0) pe_str (nomark _))
      (pss_one (ps_ret (C8.pe_c c_limited hr (by decide) (by rfl) (pa_cons (pe_op op_sub (pv 1) (pv 2)) pa_nil))))
      pss_nil)
    (pss_cons (ps_if (pt_cmpR op_eq (pv 0) pe_str (nomark _))
      (pss_one (ps_ret (C8.pe_c c_limited hr (by decide) (by rfl) (pa_cons (pe_op op_mulW (pv 1) (pv 2)) pa_nil))))
      pss_nil)
    (pss_cons (ps_if (pt_cmpR op_eq (pv 0) pe_str (nomark _))
      (pss_one (ps_ret (C8.pe_c c_limited hr (by decide) (by rfl) (pa_cons (C8.pe_c c_rounded hr (by decide) (by rfl) (pa_cons (pe_op op_mulW (pv 1) (pv 2)) (pa_cons pe_int pa_nil))) pa_nil))))
      pss_nil)
    (pss_cons (ps_if (pt_cmpR op_eq (pv 2) pe_int (nomark _))
      (pss_one (ps_ret pe_non))
      pss_nil)
    (pss_cons (ps_if (pt_cmpR op_eq (pv 0) pe_str (nomark _))
      (pss_one (ps_ret (C8.pe_c c_limited hr (by decide) (by rfl) (pa_cons (C8.pe_c c_quotient hr (by decide) (by rfl) (pa_cons (pv 1) (pa_cons (pv 2) pa_nil))) pa_nil))))
      pss_nil)
    (pss_cons (ps_if (pt_cmpR op_eq (pv 0) pe_str (nomark _))
      (pss_one (ps_ret (C8.pe_c c_limited hr (by decide) (by rfl) (pa_cons (pe_op op_sub (pv 1) (pe_op op_mulW (pv 2) (C8.pe_c c_quotient hr (by decide) (by rfl) (pa_cons (pv 1) (pa_cons (pv 2) pa_nil))))) pa_nil))))
      pss_nil)
    (pss_one (ps_ret (C8.pe_c c_limited hr (by decide) (by rfl) (pa_cons (C8.pe_c c_rounded hr (by decide) (by rfl) (pa_cons (pe_op op_mul pe_int (pv 1)) (pa_cons (pv 2) pa_nil))) pa_nil))))))))))), ?_⟩
  obtain ⟨nm, x, y, rfl, ⟨a, b, rfl, rfl, ha, hb⟩, q⟩ := h
  have hm := mul100 ha hb
  have q' : ∀ H', Ex H H' → Q (reckV nm a b) H' := q
  unfold reckV at q'
  refine q_when (b := dS nm "add") (et_test (ev_op (ev_var rfl) ev_c (rv_eq rfl))) (fun hc H1 e1 => ?_) fun hc H1 e1 => ?_
  · rw [if_pos hc] at q'
    exact s_ret (ec_lim (ev_op (ev_var rfl) (ev_var rfl) rv_I0)) fun H2 e2 => q' _ (e1.trans e2)
  rw [if_neg (by rw [hc]; decide)] at q'
  refine q_when (b := dS nm "subtract") (et_test (ev_op (ev_var rfl) ev_c (rv_eq rfl))) (fun hc H2 e2 => ?_) fun hc H2 e2 => ?_
  · rw [if_pos hc] at q'
    exact s_ret (ec_lim (ev_op (ev_var rfl) (ev_var rfl) rv_I0)) fun H3 e3 => q' _ ((e1.trans e2).trans e3)
  rw [if_neg (by rw [hc]; decide)] at q'
  refine q_when (b := dS nm "multiply") (et_test (ev_op (ev_var rfl) ev_c (rv_eq rfl))) (fun hc H3 e3 => ?_) fun hc H3 e3 => ?_
  · rw [if_pos hc] at q'
    exact s_ret (ec_lim (ev_op (ev_var rfl) (ev_var rfl) (rv_I (mul50 ha hb)))) fun H4 e4 => q' _ (((e1.trans e2).trans e3).trans e4)
  rw [if_neg (by rw [hc]; decide)] at q'
  have x3 := (e1.trans e2).trans e3
  refine q_when (b := dS nm "multiply decimals") (et_test (ev_op (ev_var rfl) ev_c (rv_eq rfl))) (fun hc H4 e4 => ?_) fun hc H4 e4 => ?_
  · rw [if_pos hc] at q'
    exact s_ret (ec_lim (ec_rounded (n := a * b) (d := 10000) ⟨by omega, by omega, by decide, by decide, by decide⟩ (ev_op (ev_var rfl) (ev_var rfl) (rv_I (mul50 ha hb))) ev_c)) fun H5 e5 => q' _ ((x3.trans e4).trans e5)
  rw [if_neg (by rw [hc]; decide)] at q'
  refine q_when (b := decide (V.int b = V.int 0)) (et_test (ev_op (ev_var rfl) ev_c (rv_eq rfl))) (fun hc H5 e5 => ?_) fun hc H5 e5 => ?_
  · rw [if_pos hc] at q'
    exact s_ret ev_c fun H6 e6 => q' _ (((x3.trans e4).trans e5).trans e6)
  rw [if_neg (by rw [hc]; decide)] at q'
  have n0 : b ≠ 0 := fun e => of_decide_eq_false hc (by rw [e])
  have x5 := (x3.trans e4).trans e5
  have b2 : b.natAbs < 2 ^ 115 := by omega
  refine q_when (b := dS nm "divide") (et_test (ev_op (ev_var rfl) ev_c (rv_eq rfl))) (fun hc H6 e6 => ?_) fun hc H6 e6 => ?_
  · rw [if_pos hc] at q'
    exact s_ret (ec_lim (ec_quotient (bigM ha hb n0) (ev_var rfl) (ev_var rfl))) fun H7 e7 => q' _ ((x5.trans e6).trans e7)
  rw [if_neg (by rw [hc]; decide)] at q'
  refine q_when (b := dS nm "rest") (et_test (ev_op (ev_var rfl) ev_c (rv_eq rfl))) (fun hc H7 e7 => ?_) fun hc H7 e7 => ?_
  · rw [if_pos hc] at q'
    exact s_ret (ec_lim (ev_op (ev_var rfl) (ev_op (ev_var rfl) (ec_quotient (bigM ha hb n0) (ev_var rfl) (ev_var rfl)) (rv_I (wmul b2 (quo_bound (bigM ha hb n0))))) rv_I0)) fun H8 e8 => q' _ (((x5.trans e6).trans e7).trans e8)
  · rw [if_neg (by rw [hc]; decide)] at q'
    exact s_ret (ec_lim (ec_rounded (n := 10000 * a) (d := b) ⟨by omega, by omega, by omega, by omega, n0⟩ (ev_op ev_c (ev_var rfl) (rv_I (.inl ⟨by decide, by decide⟩))) (ev_var rfl))) fun H8 e8 => q' _ (((x5.trans e6).trans e7).trans e8)
theorem ok__law_dated (D : Dn K mg "_law_dated" s__law_dated ["name", "day", "count"]) (c__law_is_integer : C8.Cal P w K mg base 1 "_law_is_integer" (sp__law_is_integer K) []) (c_date_of : C8.Cal P w K mg base 3 "date_of" (sp_date_of K) []) (c_day_of : C8.Cal P w K mg base 3 "day_of" (sp_day_of K) []) (c_month_length : C8.Cal P w K mg base 2 "month_length" (sp_month_length K) []) (z_min : mg "min" = none) :
    C8.Cal P w K mg base 4 "_law_dated" (sp__law_dated K) [] := by
  refine cal_of D sc__law_dated (fun vs H Q E h => ?_) (fun f cdv A outer s H vs Q E hr h => ?_)
  · obtain ⟨_, _, _, rfl, _⟩ := h
    rfl
  refine ⟨_, (pss_cons (ps_if (PW.pt (pw_or (pt_not (pt_val (C8.pe_c c__law_is_integer hr (by decide) (by rfl) (pa_cons (pv 1) pa_nil)))) (pw_or (pt_not (pt_chain op_le op_le (pe_un un_neg pe_int) (pv 1) pe_int)) (pw_or1 (pt_not (pt_val (C8.pe_c c__law_is_integer hr (by decide) (by rfl) (pa_cons (pv 2) pa_nil))))))))
      (pss_one (ps_ret pe_non))
      pss_nil)
    (pss_cons (ps_if (pt_cmpR op_eq (pv 0) pe_str (nomark _))
      (pss_cons (ps_if (pt_chain op_le op_le (pe_un un_neg pe_int) (pe_op op_add (pv 1) (pv 2)) pe_int)
      (pss_one (ps_ret (pe_op op_add (pv 1) (pv 2))))
      pss_nil)
    (pss_one (ps_ret pe_non)))
      pss_nil)
    (pss_cons (ps_asg (C8.pe_c c_date_of hr (by decide) (by rfl) (pa_cons (pv 1) pa_nil)) (pg_tup rfl (pgs_cons (pg_name (i := 3) sc__law_dated.nd rfl (.inl rfl)) (pgs_cons (pg_name (i := 4) sc__law_dated.nd rfl (.inl rfl)) (pgs_cons (pg_name (i := 5) sc__law_dated.nd rfl (.inl rfl)) pgs_nil)))))
    (pss_cons (ps_set (i := 6) sc__law_dated.nd rfl (.inl rfl) (pe_op op_add (pe_op op_sub (pe_op op_add (pe_op op_mul pe_int (pv 3)) (pv 4)) pe_int) (pv 2)))
    (pss_cons (ps_if (PW.pt (pw_or (pt_cmpR op_lt (pv 6) pe_int (nomark _)) (pw_or1 (pt_cmpR op_gt (pv 6) pe_int (nomark _)))))
      (pss_one (ps_ret pe_non))
      pss_nil)
    (pss_cons (ps_set (i := 3) sc__law_dated.nd rfl (.inl rfl) (pe_op op_fdiv (pv 6) pe_int))
    (pss_cons (ps_set (i := 4) sc__law_dated.nd rfl (.inl rfl) (pe_op op_add (pe_op op_sub (pv 6) (pe_op op_mul pe_int (pv 3))) pe_int))
    (pss_one (ps_ret (C8.pe_c c_day_of hr (by decide) (by rfl) (pa_cons (pv 3) (pa_cons (pv 4) (pa_cons (pe_callB (call_min2 rfl) (by rfl) z_min (by decide +kernel) (pa_cons (pv 5) (pa_cons (C8.pe_c c_month_length hr (by decide) (by rfl) (pa_cons (pv 3) (pa_cons (pv 4) pa_nil))) pa_nil))) pa_nil))))))))))))), ?_⟩
  obtain ⟨nm, x, y, rfl, hx, hy, q⟩ := h
  have ply := hy.ok.pl
  unfold datedV at q
  by_cases hxi : isInt x = true
  case neg =>
    have hf : isInt x = false := by cases c : isInt x <;> first | rfl | exact absurd c hxi
    have hd : isDay x = false := by cases hx <;> first | rfl | (simp [isInt] at hf; done)
    rw [hd, Bool.false_and, if_neg (by decide)] at q
    exact q_when (b := !isInt x || true) (et_or (et_not (et_B (ec_isint (ev_var rfl) hx.ok.pl))) fun z => by rw [hf] at z; cases z) (fun _ H1 e1 => s_ret ev_c fun H2 e2 => q _ (e1.trans e2)) fun z => by rw [Bool.or_true] at z; cases z
  case pos =>
    obtain ⟨a, rfl, ha0⟩ : ∃ a, x = .int a ∧ (-1000000000000000 ≤ a ∧ a ≤ 1000000000000000) := by
      cases hx with
      | int i hi => exact ⟨i, rfl, hi⟩
      | _ => simp [isInt] at hxi
    refine q_when (b := (!true) || ((!(decide (-719162 ≤ a) && decide (a ≤ 2932896))) || (!isInt y))) ?_ (fun hb H1 e1 => ?_) fun hb H1 e1 => ?_
    · exact et_or (et_not (et_B (ec_isint (ev_var rfl) (.int a)))) fun _ => et_or (et_not (et_test (ev_chain (ev_un ev_c ru_neg) (ev_var rfl) rv_I0 (fun _ => ev_c) (fun _ => rv_I0)))) fun _ => et_not (et_B (ec_isint (ev_var rfl) ply))
    · have hn : (isDay (.int a) && isInt y) = false := by
        show ((decide (-719162 ≤ a) && decide (a ≤ 2932896)) && isInt y) = false
        cases c1 : (decide (-719162 ≤ a) && decide (a ≤ 2932896)) <;> cases c2 : isInt y <;> first | rfl | (rw [c1, c2] at hb; cases hb)
      rw [hn, if_neg (by decide)] at q
      exact s_ret ev_c fun H2 e2 => q _ (e1.trans e2)
    have hp : (isDay (.int a) && isInt y) = true := by
      show ((decide (-719162 ≤ a) && decide (a ≤ 2932896)) && isInt y) = true
      cases c1 : (decide (-719162 ≤ a) && decide (a ≤ 2932896)) <;> cases c2 : isInt y <;> first | rfl | (rw [c1, c2] at hb; cases hb)
    rw [hp, if_pos rfl] at q
    obtain ⟨a', b, ea, rfl, ha, hbb⟩ := day_of' hx hy hp
    cases ea
    refine q_when (b := dS nm "add days") (et_test (ev_op (ev_var rfl) ev_c (rv_eq rfl))) (fun hc H2 e2 => ?_) fun hc H2 e2 => ?_
    · rw [if_pos hc] at q
      have q' : ∀ H', Ex H H' → Q (if (decide (-719162 ≤ a + b) && decide (a + b ≤ 2932896)) = true then .int (a + b) else .non) H' := q
      refine q_when (b := decide (-719162 ≤ a + b) && decide (a + b ≤ 2932896)) (et_test (ev_chain (ev_un ev_c ru_neg) (ev_op (ev_var rfl) (ev_var rfl) rv_I0) rv_I0 (fun _ => ev_c) (fun _ => rv_I0))) (fun hd H3 e3 => ?_) fun hd H3 e3 => ?_
      · rw [if_pos hd] at q'
        exact s_ret (ev_op (ev_var rfl) (ev_var rfl) rv_I0) fun H4 e4 => q' _ (((e1.trans e2).trans e3).trans e4)
      · rw [if_neg (by rw [hd]; decide)] at q'
        exact s_ret ev_c fun H4 e4 => q' _ (((e1.trans e2).trans e3).trans e4)
    rw [if_neg (by rw [hc]; decide)] at q
    have q' : ∀ H', Ex H H' → Q (dayV (monY (dt a) b) (monM (dt a) b) (minI (dt a).2.2 (mlen (monY (dt a) b) (monM (dt a) b)))) H' := q
    have kd := (dt_ok ha).1
    obtain ⟨k1, k2, k3⟩ := kd
    refine q_asgG (ec_date (ev_var rfl) ha) fun p H3 hp3 e3 h3 => gt3 (st_of h3) ?_
    have x3 := (e1.trans e2).trans e3
    refine q_asg (v := .int (12 * (dt a).1 + (dt a).2.1 - 1 + b)) (ev_op (ev_op (ev_op (ev_op ev_c (ev_var rfl) (rv_I (.inl ⟨by decide, by decide⟩))) (ev_var rfl) rv_I0) ev_c rv_I0) (ev_var rfl) rv_I0) fun H4 e4 => ?_
    refine q_when (b := decide (12 * (dt a).1 + (dt a).2.1 - 1 + b < 12) || decide (12 * (dt a).1 + (dt a).2.1 - 1 + b > 119999)) (by walk_at "et") (fun hd H5 e5 => ?_) fun hd H5 e5 => ?_
    · rw [Bool.or_eq_true, decide_eq_true_eq, decide_eq_true_eq] at hd
      rw [out_year (by unfold monY; omega)] at q'
      exact s_ret ev_c fun H6 e6 => q' _ (((x3.trans e4).trans e5).trans e6)
    rw [Bool.or_eq_false_iff, decide_eq_false_iff_not, decide_eq_false_iff_not] at hd
    refine q_asg (v := .int (monY (dt a) b)) (ev_is (ev_op (ev_var rfl) ev_c (rv_I ⟨by decide, by decide⟩)) (congrArg V.int (by unfold monY; omega))) fun H6 e6 => ?_
    refine q_asg (v := .int (monM (dt a) b)) (ev_is (ev_op (ev_op (ev_var rfl) (ev_op ev_c (ev_var rfl) (rv_I (.inl ⟨by decide, by decide⟩))) rv_I0) ev_c rv_I0) (congrArg V.int (by unfold monM monY; omega))) fun H7 e7 => ?_
    have hm : 1 ≤ monM (dt a) b ∧ monM (dt a) b ≤ 12 := by unfold monM; omega
    exact s_ret (ec_day (ev_var rfl) (ev_var rfl) (ev_min2 (ev_var rfl) (ec_mlen (ev_var rfl) (ev_var rfl) hm))) fun H8 e8 => q' _ (((((x3.trans e4).trans e5).trans e6).trans e7).trans e8)
theorem ok__law_due (D : Dn K mg "_law_due" s__law_due ["name", "first", "second"]) (c__law_compared : C8.Cal P w K mg base 2 "_law_compared" (sp__law_compared K) []) (c__law_dated : C8.Cal P w K mg base 4 "_law_dated" (sp__law_dated K) []) (c__law_is_integer : C8.Cal P w K mg base 1 "_law_is_integer" (sp__law_is_integer K) []) (c__law_reckoned : C8.Cal P w K mg base 2 "_law_reckoned" (sp__law_reckoned K) []) (c_both : C8.Cal P w K mg base 1 "both" (sp_both K) []) (c_either : C8.Cal P w K mg base 1 "either" (sp_either K) []) :
    C8.Cal P w K mg base 5 "_law_due" (sp__law_due K) [] := by
  refine cal_of D sc__law_due (fun vs H Q E h => ?_) (fun f cdv A outer s H vs Q E hr h => ?_)
  · obtain ⟨_, _, _, rfl, _⟩ := h
    rfl
  refine ⟨_, (pss_cons (ps_if (pt_cmpR op_eq (pv 0) pe_str (nomark _))
      (pss_one (ps_ret (C8.pe_c c_both hr (by decide) (by rfl) (pa_cons (pv 1) (pa_cons (pv 2) pa_nil)))))
      pss_nil)
    (pss_cons (ps_if (pt_cmpR op_eq (pv 0) pe_str (nomark _))
      (pss_one (ps_ret (C8.pe_c c_either hr (by decide) (by rfl) (pa_cons (pv 1) (pa_cons (pv 2) pa_nil)))))
      pss_nil)
    (pss_cons (ps_if (pt_cmpR op_eq (pv 0) pe_str (nomark _))
      (pss_cons (ps_if (pt_cmpR op_isN (pv 1) pe_non (nomark _))
      (pss_one (ps_ret (pv 2)))
      pss_nil)
    (pss_one (ps_ret (pv 1))))
      pss_nil)
    (pss_cons (ps_if (pt_cmpR op_in_seq (pv 0) (pe_tup (pa_cons pe_str (pa_cons pe_str (pa_cons pe_str (pa_cons pe_str (pa_cons pe_str (pa_cons pe_str pa_nil))))))) (by with_unfolding_all rfl))
      (pss_one (ps_ret (C8.pe_c c__law_compared hr (by decide) (by rfl) (pa_cons (pv 0) (pa_cons (pv 1) (pa_cons (pv 2) pa_nil))))))
      pss_nil)
    (pss_cons (ps_if (pt_cmpR op_in_seq (pv 0) (pe_tup (pa_cons pe_str (pa_cons pe_str pa_nil))) (by with_unfolding_all rfl))
      (pss_one (ps_ret (C8.pe_c c__law_dated hr (by decide) (by rfl) (pa_cons (pv 0) (pa_cons (pv 1) (pa_cons (pv 2) pa_nil))))))
      pss_nil)
    (pss_cons (ps_if (PW.pt (pw_or (pt_not (pt_val (C8.pe_c c__law_is_integer hr (by decide) (by rfl) (pa_cons (pv 1) pa_nil)))) (pw_or1 (pt_not (pt_val (C8.pe_c c__law_is_integer hr (by decide) (by rfl) (pa_cons (pv 2) pa_nil)))))))
      (pss_one (ps_ret pe_non))
      pss_nil)
    (pss_one (ps_ret (C8.pe_c c__law_reckoned hr (by decide) (by rfl) (pa_cons (pv 0) (pa_cons (pv 1) (pa_cons (pv 2) pa_nil)))))))))))), ?_⟩
  obtain ⟨nm, x, y, rfl, hx, hy, q⟩ := h
  unfold dueV at q
  refine q_when (b := dS nm "and") (et_test (ev_op (ev_var rfl) ev_c (rv_eq rfl))) (fun hc H1 e1 => ?_) fun hc H1 e1 => ?_
  · rw [if_pos hc] at q
    exact s_ret (ec_both (ev_var rfl) (ev_var rfl)) fun H2 e2 => q _ (e1.trans e2)
  rw [if_neg (by rw [hc]; decide)] at q
  refine q_when (b := dS nm "or") (et_test (ev_op (ev_var rfl) ev_c (rv_eq rfl))) (fun hc H2 e2 => ?_) fun hc H2 e2 => ?_
  · rw [if_pos hc] at q
    exact s_ret (ec_either (ev_var rfl) (ev_var rfl)) fun H3 e3 => q _ ((e1.trans e2).trans e3)
  rw [if_neg (by rw [hc]; decide)] at q
  have x2 := e1.trans e2
  refine q_when (b := dS nm "coalesce") (et_test (ev_op (ev_var rfl) ev_c (rv_eq rfl))) (fun hc H3 e3 => ?_) fun hc H3 e3 => ?_
  · rw [if_pos hc] at q
    unfold knownV at q
    refine q_when (b := decide (x = .non)) (by walk_at "et") (fun hd H4 e4 => ?_) fun hd H4 e4 => ?_
    · rw [if_pos (of_decide_eq_true hd)] at q
      exact s_ret (ev_var rfl) fun H5 e5 => q _ (((x2.trans e3).trans e4).trans e5)
    · rw [if_neg (of_decide_eq_false hd)] at q
      exact s_ret (ev_var rfl) fun H5 e5 => q _ (((x2.trans e3).trans e4).trans e5)
  rw [if_neg (by rw [hc]; decide)] at q
  refine q_when (b := inV (.str nm) cmpL) (et_test (ev_inU (ev_var rfl) (eu_tup (ea_cons ev_c (ea_cons ev_c (ea_cons ev_c (ea_cons ev_c (ea_cons ev_c (ea_cons ev_c ea_nil)))))) (by show 6 ≤ 100000; decide)) rfl rfl)) (fun hc H4 e4 => ?_) fun hc H4 e4 => ?_
  · rw [if_pos hc] at q
    exact s_ret (ec_cmp hx.ok hy.ok (ev_var rfl) (ev_var rfl) (ev_var rfl)) fun H5 e5 => q _ (((x2.trans e3).trans e4).trans e5)
  rw [if_neg (by rw [hc]; decide)] at q
  have x4 := (x2.trans e3).trans e4
  refine q_when (b := inV (.str nm) datL) (et_test (ev_inU (ev_var rfl) (eu_tup (ea_cons ev_c (ea_cons ev_c ea_nil)) (by show 2 ≤ 100000; decide)) rfl rfl)) (fun hc H5 e5 => ?_) fun hc H5 e5 => ?_
  · rw [if_pos hc] at q
    exact s_ret (ec_dated hx hy (ev_var rfl) (ev_var rfl) (ev_var rfl)) fun H6 e6 => q _ ((x4.trans e5).trans e6)
  rw [if_neg (by rw [hc]; decide)] at q
  refine q_when (b := !isInt x || !isInt y) (et_or (et_not (et_B (ec_isint (ev_var rfl) hx.ok.pl))) fun _ => et_not (et_B (ec_isint (ev_var rfl) hy.ok.pl))) (fun hc H6 e6 => ?_) fun hc H6 e6 => ?_
  · rw [if_pos hc] at q
    exact s_ret ev_c fun H7 e7 => q _ (((x4.trans e5).trans e6).trans e7)
  · rw [if_neg (by rw [hc]; decide)] at q
    have two : twoInts x y := ints_of hx hy (by cases c1 : isInt x <;> cases c2 : isInt y <;> first | rfl | (rw [c1, c2] at hc; cases hc))
    exact s_ret (ec_reck two (ev_var rfl) (ev_var rfl) (ev_var rfl)) fun H7 e7 => q _ (((x4.trans e5).trans e6).trans e7)
end

/-! ### both say the same -/
theorem alike_not {x y : V} (hx : Ok x) : (!decide (V.int (kr x) = V.int (kr y)) || decide (V.int (kr x) = V.int 0)) = !alike x y := by
  unfold alike
  cases hx <;> cases decide (V.int (kr _) = V.int (kr y)) <;> rfl
theorem eqV_pay {x y : V} (hx : Ok x) (hy : Ok y) (e : kr x = kr y) : eqV (payV x) (payV y) = PyData.eqv (payD x) (payD y) := by
  cases hx <;> cases hy <;> first | (simp [kr] at e; done) | rfl
theorem pay_le {x y : V} (hx : Ok x) (hy : Ok y) (e : kr x = kr y) (n : PyData.eqv (payD x) (payD y) = false) : leI (payV x) (payV y) = !ltD (payD y) (payD x) := by
  have two : ∀ a b : Int, decide (a ≤ b) = !decide (b < a) := by
    intro a b
    by_cases h : a ≤ b
    · rw [decide_eq_true h, decide_eq_false (by omega)]; rfl
    · rw [decide_eq_false h, decide_eq_true (by omega)]; rfl
  cases hx <;> cases hy <;> first | (simp [kr] at e; done) | (simp only [payV, payD, leI, ltD]; done) | (simp only [payV, payD, leI, ltD]; exact two _ _) | skip
theorem eqv_sym {x y : V} (hx : Ok x) (hy : Ok y) (e : kr x = kr y) : PyData.eqv (payD x) (payD y) = PyData.eqv (payD y) (payD x) := by
  rw [← eqV_pay hx hy e, ← eqV_pay hy hx e.symm]
  cases hx <;> cases hy <;> first | (simp [kr] at e; done) | rfl | (simp only [payV, eqV]; exact BEq.comm)
theorem lt_rkD (x y : V) : ltD (rkD x) (rkD y) = if kr x = kr y then (if PyData.eqv (payD x) (payD y) = true then false else ltD (payD x) (payD y)) else decide (kr x < kr y) := by
  show ltDs [.int (kr x), payD x] [.int (kr y), payD y] = _
  have c : ∀ (d e : PyData) (ds es : List PyData), ltDs (d :: ds) (e :: es) = if PyData.eqv d e = true then ltDs ds es else ltD d e := fun d e ds es => by rw [ltDs]
  rw [c]
  by_cases e : kr x = kr y
  · rw [if_pos e, if_pos (show PyData.eqv (.int (kr x)) (.int (kr y)) = true from beq_iff_eq.mpr e), c]
    rfl
  · rw [if_neg e, if_neg (show ¬ PyData.eqv (.int (kr x)) (.int (kr y)) = true from fun z => e (beq_iff_eq.mp z)), ltD]
theorem most_le {x y : V} (hx : Ok x) (hy : Ok y) : leV x y = !ltD (rkD y) (rkD x) := by
  unfold leV
  rw [lt_rkD]
  by_cases e : kr x = kr y
  · rw [if_pos e, if_pos e.symm, eqV_pay hx hy e, ← eqv_sym hx hy e]
    cases n : PyData.eqv (payD x) (payD y) with
    | true => rfl
    | false => rw [if_neg (by decide), if_neg (by decide)]; exact pay_le hx hy e n
  · rw [if_neg e, if_neg fun z => e z.symm]
    by_cases l : kr x ≤ kr y
    · rw [decide_eq_true l, decide_eq_false (by omega)]; rfl
    · rw [decide_eq_false l, decide_eq_true (by omega)]; rfl
theorem if_flip {b : Bool} {p q : V} : (if (!b) = true then p else q) = if b = true then q else p := by cases b <;> rfl
theorem not_two {x y : V} {p : V} : (if (!isInt x || !isInt y) = true then V.non else p) = if (isInt x && isInt y) = true then p else .non := by
  cases isInt x <;> cases isInt y <;> rfl

theorem due_oAnd {x y : V} (hx : Ok x) (hy : Ok y) : dueV "and" x y = and3 x y := by
  rw [dueV, if_pos (show dS "and" "and" = true by decide +kernel)]
theorem due_oOr {x y : V} (hx : Ok x) (hy : Ok y) : dueV "or" x y = or3 x y := by
  rw [dueV, if_neg (show ¬ dS "or" "and" = true by decide +kernel), if_pos (show dS "or" "or" = true by decide +kernel)]
theorem due_oEqual {x y : V} (hx : Ok x) (hy : Ok y) : dueV "equal" x y = if alike x y = true then sameV x y else .non := by
  rw [dueV, if_neg (show ¬ dS "equal" "and" = true by decide +kernel), if_neg (show ¬ dS "equal" "or" = true by decide +kernel), if_neg (show ¬ dS "equal" "coalesce" = true by decide +kernel), if_pos (show inV (.str "equal") cmpL = true by decide +kernel), cmpV, if_neg (show ¬ dS "equal" "same" = true by decide +kernel), alike_not hx, if_flip, if_pos (show dS "equal" "equal" = true by decide +kernel)]
  try rfl
theorem due_oLess {x y : V} (hx : Ok x) (hy : Ok y) : dueV "less" x y = if alike x y = true then lessV x y else .non := by
  rw [dueV, if_neg (show ¬ dS "less" "and" = true by decide +kernel), if_neg (show ¬ dS "less" "or" = true by decide +kernel), if_neg (show ¬ dS "less" "coalesce" = true by decide +kernel), if_pos (show inV (.str "less") cmpL = true by decide +kernel), cmpV, if_neg (show ¬ dS "less" "same" = true by decide +kernel), alike_not hx, if_flip, if_neg (show ¬ dS "less" "equal" = true by decide +kernel), if_pos (show dS "less" "less" = true by decide +kernel)]
  try rfl
theorem due_oMost {x y : V} (hx : Ok x) (hy : Ok y) : dueV "at most" x y = if alike x y = true then mostV x y else .non := by
  rw [dueV, if_neg (show ¬ dS "at most" "and" = true by decide +kernel), if_neg (show ¬ dS "at most" "or" = true by decide +kernel), if_neg (show ¬ dS "at most" "coalesce" = true by decide +kernel), if_pos (show inV (.str "at most") cmpL = true by decide +kernel), cmpV, if_neg (show ¬ dS "at most" "same" = true by decide +kernel), alike_not hx, if_flip, if_neg (show ¬ dS "at most" "equal" = true by decide +kernel), if_neg (show ¬ dS "at most" "less" = true by decide +kernel), if_pos (show dS "at most" "at most" = true by decide +kernel), most_le hx hy]
  try rfl
theorem due_oSame {x y : V} (hx : Ok x) (hy : Ok y) : dueV "same" x y = sameV x y := by
  rw [dueV, if_neg (show ¬ dS "same" "and" = true by decide +kernel), if_neg (show ¬ dS "same" "or" = true by decide +kernel), if_neg (show ¬ dS "same" "coalesce" = true by decide +kernel), if_pos (show inV (.str "same") cmpL = true by decide +kernel), cmpV, if_pos (show dS "same" "same" = true by decide +kernel)]
  try rfl
theorem due_oLeast {x y : V} (hx : Ok x) (hy : Ok y) : dueV "least" x y = if alike x y = true then leastV x y else .non := by
  rw [dueV, if_neg (show ¬ dS "least" "and" = true by decide +kernel), if_neg (show ¬ dS "least" "or" = true by decide +kernel), if_neg (show ¬ dS "least" "coalesce" = true by decide +kernel), if_pos (show inV (.str "least") cmpL = true by decide +kernel), cmpV, if_neg (show ¬ dS "least" "same" = true by decide +kernel), alike_not hx, if_flip, if_neg (show ¬ dS "least" "equal" = true by decide +kernel), if_neg (show ¬ dS "least" "less" = true by decide +kernel), if_neg (show ¬ dS "least" "at most" = true by decide +kernel), if_pos (show dS "least" "least" = true by decide +kernel)]
  try rfl
theorem due_oGreat {x y : V} (hx : Ok x) (hy : Ok y) : dueV "greatest" x y = if alike x y = true then greatV x y else .non := by
  rw [dueV, if_neg (show ¬ dS "greatest" "and" = true by decide +kernel), if_neg (show ¬ dS "greatest" "or" = true by decide +kernel), if_neg (show ¬ dS "greatest" "coalesce" = true by decide +kernel), if_pos (show inV (.str "greatest") cmpL = true by decide +kernel), cmpV, if_neg (show ¬ dS "greatest" "same" = true by decide +kernel), alike_not hx, if_flip, if_neg (show ¬ dS "greatest" "equal" = true by decide +kernel), if_neg (show ¬ dS "greatest" "less" = true by decide +kernel), if_neg (show ¬ dS "greatest" "at most" = true by decide +kernel), if_neg (show ¬ dS "greatest" "least" = true by decide +kernel)]
  try rfl
theorem due_oAdd {x y : V} (hx : Ok x) (hy : Ok y) : dueV "add" x y = if (isInt x && isInt y) = true then addV x y else .non := by
  rw [dueV, if_neg (show ¬ dS "add" "and" = true by decide +kernel), if_neg (show ¬ dS "add" "or" = true by decide +kernel), if_neg (show ¬ dS "add" "coalesce" = true by decide +kernel), if_neg (show ¬ inV (.str "add") cmpL = true by decide +kernel), if_neg (show ¬ inV (.str "add") datL = true by decide +kernel), not_two, reckV, if_pos (show dS "add" "add" = true by decide +kernel)]
  try rfl
theorem due_oSub {x y : V} (hx : Ok x) (hy : Ok y) : dueV "subtract" x y = if (isInt x && isInt y) = true then subV x y else .non := by
  rw [dueV, if_neg (show ¬ dS "subtract" "and" = true by decide +kernel), if_neg (show ¬ dS "subtract" "or" = true by decide +kernel), if_neg (show ¬ dS "subtract" "coalesce" = true by decide +kernel), if_neg (show ¬ inV (.str "subtract") cmpL = true by decide +kernel), if_neg (show ¬ inV (.str "subtract") datL = true by decide +kernel), not_two, reckV, if_neg (show ¬ dS "subtract" "add" = true by decide +kernel), if_pos (show dS "subtract" "subtract" = true by decide +kernel)]
  try rfl
theorem due_oMul {x y : V} (hx : Ok x) (hy : Ok y) : dueV "multiply" x y = if (isInt x && isInt y) = true then mulV x y else .non := by
  rw [dueV, if_neg (show ¬ dS "multiply" "and" = true by decide +kernel), if_neg (show ¬ dS "multiply" "or" = true by decide +kernel), if_neg (show ¬ dS "multiply" "coalesce" = true by decide +kernel), if_neg (show ¬ inV (.str "multiply") cmpL = true by decide +kernel), if_neg (show ¬ inV (.str "multiply") datL = true by decide +kernel), not_two, reckV, if_neg (show ¬ dS "multiply" "add" = true by decide +kernel), if_neg (show ¬ dS "multiply" "subtract" = true by decide +kernel), if_pos (show dS "multiply" "multiply" = true by decide +kernel)]
  try rfl
theorem due_oDiv {x y : V} (hx : Ok x) (hy : Ok y) : dueV "divide" x y = if (isInt x && isInt y) = true then divV x y else .non := by
  rw [dueV, if_neg (show ¬ dS "divide" "and" = true by decide +kernel), if_neg (show ¬ dS "divide" "or" = true by decide +kernel), if_neg (show ¬ dS "divide" "coalesce" = true by decide +kernel), if_neg (show ¬ inV (.str "divide") cmpL = true by decide +kernel), if_neg (show ¬ inV (.str "divide") datL = true by decide +kernel), not_two, reckV, if_neg (show ¬ dS "divide" "add" = true by decide +kernel), if_neg (show ¬ dS "divide" "subtract" = true by decide +kernel), if_neg (show ¬ dS "divide" "multiply" = true by decide +kernel), if_neg (show ¬ dS "divide" "multiply decimals" = true by decide +kernel)]
  unfold divV
  by_cases c : iOf y = 0
  · rw [if_pos (show decide (V.int (iOf y) = V.int 0) = true by rw [c]; rfl), if_pos c]
  · rw [if_neg (show ¬ decide (V.int (iOf y) = V.int 0) = true from fun z => c (V.int.inj (of_decide_eq_true z))), if_neg c, if_pos (show dS "divide" "divide" = true by decide +kernel)]
theorem due_oRest {x y : V} (hx : Ok x) (hy : Ok y) : dueV "rest" x y = if (isInt x && isInt y) = true then restV x y else .non := by
  rw [dueV, if_neg (show ¬ dS "rest" "and" = true by decide +kernel), if_neg (show ¬ dS "rest" "or" = true by decide +kernel), if_neg (show ¬ dS "rest" "coalesce" = true by decide +kernel), if_neg (show ¬ inV (.str "rest") cmpL = true by decide +kernel), if_neg (show ¬ inV (.str "rest") datL = true by decide +kernel), not_two, reckV, if_neg (show ¬ dS "rest" "add" = true by decide +kernel), if_neg (show ¬ dS "rest" "subtract" = true by decide +kernel), if_neg (show ¬ dS "rest" "multiply" = true by decide +kernel), if_neg (show ¬ dS "rest" "multiply decimals" = true by decide +kernel)]
  unfold restV
  by_cases c : iOf y = 0
  · rw [if_pos (show decide (V.int (iOf y) = V.int 0) = true by rw [c]; rfl), if_pos c]
  · rw [if_neg (show ¬ decide (V.int (iOf y) = V.int 0) = true from fun z => c (V.int.inj (of_decide_eq_true z))), if_neg c, if_neg (show ¬ dS "rest" "divide" = true by decide +kernel), if_pos (show dS "rest" "rest" = true by decide +kernel)]
theorem due_oMulD {x y : V} (hx : Ok x) (hy : Ok y) : dueV "multiply decimals" x y = if (isInt x && isInt y) = true then mulDV x y else .non := by
  rw [dueV, if_neg (show ¬ dS "multiply decimals" "and" = true by decide +kernel), if_neg (show ¬ dS "multiply decimals" "or" = true by decide +kernel), if_neg (show ¬ dS "multiply decimals" "coalesce" = true by decide +kernel), if_neg (show ¬ inV (.str "multiply decimals") cmpL = true by decide +kernel), if_neg (show ¬ inV (.str "multiply decimals") datL = true by decide +kernel), not_two, reckV, if_neg (show ¬ dS "multiply decimals" "add" = true by decide +kernel), if_neg (show ¬ dS "multiply decimals" "subtract" = true by decide +kernel), if_neg (show ¬ dS "multiply decimals" "multiply" = true by decide +kernel), if_pos (show dS "multiply decimals" "multiply decimals" = true by decide +kernel)]
  try rfl
theorem due_oDivD {x y : V} (hx : Ok x) (hy : Ok y) : dueV "divide decimals" x y = if (isInt x && isInt y) = true then divDV x y else .non := by
  rw [dueV, if_neg (show ¬ dS "divide decimals" "and" = true by decide +kernel), if_neg (show ¬ dS "divide decimals" "or" = true by decide +kernel), if_neg (show ¬ dS "divide decimals" "coalesce" = true by decide +kernel), if_neg (show ¬ inV (.str "divide decimals") cmpL = true by decide +kernel), if_neg (show ¬ inV (.str "divide decimals") datL = true by decide +kernel), not_two, reckV, if_neg (show ¬ dS "divide decimals" "add" = true by decide +kernel), if_neg (show ¬ dS "divide decimals" "subtract" = true by decide +kernel), if_neg (show ¬ dS "divide decimals" "multiply" = true by decide +kernel), if_neg (show ¬ dS "divide decimals" "multiply decimals" = true by decide +kernel)]
  unfold divDV
  by_cases c : iOf y = 0
  · rw [if_pos (show decide (V.int (iOf y) = V.int 0) = true by rw [c]; rfl), if_pos c]
  · rw [if_neg (show ¬ decide (V.int (iOf y) = V.int 0) = true from fun z => c (V.int.inj (of_decide_eq_true z))), if_neg c, if_neg (show ¬ dS "divide decimals" "divide" = true by decide +kernel), if_neg (show ¬ dS "divide decimals" "rest" = true by decide +kernel)]
theorem due_oKnown {x y : V} (hx : Ok x) (hy : Ok y) : dueV "coalesce" x y = knownV x y := by
  rw [dueV, if_neg (show ¬ dS "coalesce" "and" = true by decide +kernel), if_neg (show ¬ dS "coalesce" "or" = true by decide +kernel), if_pos (show dS "coalesce" "coalesce" = true by decide +kernel)]
theorem due_oDays {x y : V} (hx : Ok x) (hy : Ok y) : dueV "add days" x y = if (isDay x && isInt y) = true then daysV x y else .non := by
  rw [dueV, if_neg (show ¬ dS "add days" "and" = true by decide +kernel), if_neg (show ¬ dS "add days" "or" = true by decide +kernel), if_neg (show ¬ dS "add days" "coalesce" = true by decide +kernel), if_neg (show ¬ inV (.str "add days") cmpL = true by decide +kernel), if_pos (show inV (.str "add days") datL = true by decide +kernel), datedV, if_pos (show dS "add days" "add days" = true by decide +kernel)]
theorem due_oMonths {x y : V} (hx : Ok x) (hy : Ok y) : dueV "add months" x y = if (isDay x && isInt y) = true then monthsV x y else .non := by
  rw [dueV, if_neg (show ¬ dS "add months" "and" = true by decide +kernel), if_neg (show ¬ dS "add months" "or" = true by decide +kernel), if_neg (show ¬ dS "add months" "coalesce" = true by decide +kernel), if_neg (show ¬ inV (.str "add months") cmpL = true by decide +kernel), if_pos (show inV (.str "add months") datL = true by decide +kernel), datedV, if_neg (show ¬ dS "add months" "add days" = true by decide +kernel)]
def namesS : List Str := ["and", "or", "equal", "less", "at most", "same", "least", "greatest", "add", "subtract", "multiply", "divide", "rest", "multiply decimals", "divide decimals", "join", "like", "position", "coalesce", "add days", "add months"]
/-- of each name: the program's and the law's value -/
theorem each_name {nm : Str} (h : nm ∈ namesS) {x y : V} (hx : Ok x) (hy : Ok y) : (inV (.str nm) txtL = false ∧ OpN nm x y (dueV nm x y)) ∨ (inV (.str nm) txtL = true ∧ ((isStr x && isStr y) = false → OpN nm x y .non)) := by
  unfold namesS at h
  simp only [List.mem_cons, List.not_mem_nil, or_false] at h
  rcases h with rfl | rfl | rfl | rfl | rfl | rfl | rfl | rfl | rfl | rfl | rfl | rfl | rfl | rfl | rfl | rfl | rfl | rfl | rfl | rfl | rfl
  · exact .inl ⟨by decide +kernel, by rw [due_oAnd hx hy]; exact .oAnd x y⟩
  · exact .inl ⟨by decide +kernel, by rw [due_oOr hx hy]; exact .oOr x y⟩
  · exact .inl ⟨by decide +kernel, by rw [due_oEqual hx hy]; exact .oEqual x y⟩
  · exact .inl ⟨by decide +kernel, by rw [due_oLess hx hy]; exact .oLess x y⟩
  · exact .inl ⟨by decide +kernel, by rw [due_oMost hx hy]; exact .oMost x y⟩
  · exact .inl ⟨by decide +kernel, by rw [due_oSame hx hy]; exact .oSame x y⟩
  · exact .inl ⟨by decide +kernel, by rw [due_oLeast hx hy]; exact .oLeast x y⟩
  · exact .inl ⟨by decide +kernel, by rw [due_oGreat hx hy]; exact .oGreat x y⟩
  · exact .inl ⟨by decide +kernel, by rw [due_oAdd hx hy]; exact .oAdd x y⟩
  · exact .inl ⟨by decide +kernel, by rw [due_oSub hx hy]; exact .oSub x y⟩
  · exact .inl ⟨by decide +kernel, by rw [due_oMul hx hy]; exact .oMul x y⟩
  · exact .inl ⟨by decide +kernel, by rw [due_oDiv hx hy]; exact .oDiv x y⟩
  · exact .inl ⟨by decide +kernel, by rw [due_oRest hx hy]; exact .oRest x y⟩
  · exact .inl ⟨by decide +kernel, by rw [due_oMulD hx hy]; exact .oMulD x y⟩
  · exact .inl ⟨by decide +kernel, by rw [due_oDivD hx hy]; exact .oDivD x y⟩
  · exact .inr ⟨by decide +kernel, fun n => .oJoin x y n⟩
  · exact .inr ⟨by decide +kernel, fun n => .oLike x y n⟩
  · exact .inr ⟨by decide +kernel, fun n => .oPos x y n⟩
  · exact .inl ⟨by decide +kernel, by rw [due_oKnown hx hy]; exact .oKnown x y⟩
  · exact .inl ⟨by decide +kernel, by rw [due_oDays hx hy]; exact .oDays x y⟩
  · exact .inl ⟨by decide +kernel, by rw [due_oMonths hx hy]; exact .oMonths x y⟩

theorem VOk.sm {x : V} (h : VOk x) : Sm x := by
  cases h with
  | non => exact .non
  | bl b => exact .bl b
  | int i hi => exact .int i hi
  | str l _ hc => exact .str _ (strOk_S hc)
theorem kit_int {x : V} (h : Pl x) : ∃ b, kitB (tyN x) "int" = some b := by
  cases h with
  | non => exact ⟨false, by decide +kernel⟩
  | bl b => exact ⟨true, by show kitB "bool" "int" = some true; decide +kernel⟩
  | int i => exact ⟨true, by show kitB "int" "int" = some true; decide +kernel⟩
  | str s => exact ⟨false, by show kitB "str" "int" = some false; decide +kernel⟩
theorem kit_bool {x : V} (h : Pl x) : ∃ b, kitB (tyN x) "bool" = some b := by
  cases h with
  | non => exact ⟨false, by decide +kernel⟩
  | bl b => exact ⟨true, by show kitB "bool" "bool" = some true; decide +kernel⟩
  | int i => exact ⟨false, by show kitB "int" "bool" = some false; decide +kernel⟩
  | str s => exact ⟨false, by show kitB "str" "bool" = some false; decide +kernel⟩
theorem opn_ok {nm : Str} {x y z : V} (hx : Ok x) (hy : Ok y) (h : OpN nm x y z) : Ok z := by
  have lim : ∀ n, Ok (limV n) := fun n => by unfold limV; split <;> constructor
  have day : ∀ y m d, Ok (dayV y m d) := fun y m d => by unfold dayV; split <;> constructor
  have ite : ∀ {c : Prop} [Decidable c] {u v : V}, Ok u → Ok v → Ok (if c then u else v) := fun {c _ u v} h1 h2 => by split <;> assumption
  cases h with
  | oAnd => unfold and3; exact ite (.bl _) (ite (.bl _) .non)
  | oOr => unfold or3; exact ite (.bl _) (ite (.bl _) .non)
  | oSame => exact .bl _
  | oKnown => unfold knownV; exact ite hy hx
  | oEqual => exact ite (.bl _) .non
  | oLess => exact ite (.bl _) .non
  | oMost => exact ite (.bl _) .non
  | oLeast => exact ite (by unfold leastV; exact ite hy hx) .non
  | oGreat => exact ite (by unfold greatV; exact ite hy hx) .non
  | oAdd => exact ite (lim _) .non
  | oSub => exact ite (lim _) .non
  | oMul => exact ite (lim _) .non
  | oDiv => exact ite (by unfold divV; exact ite .non (lim _)) .non
  | oRest => exact ite (by unfold restV; exact ite .non (lim _)) .non
  | oMulD => exact ite (lim _) .non
  | oDivD => exact ite (by unfold divDV; exact ite .non (lim _)) .non
  | oJoin => exact .non
  | oLike => exact .non
  | oPos => exact .non
  | oDays => exact ite (by unfold daysV; exact ite (.int _) .non) .non
  | oMonths => exact ite (day _ _ _) .non
section
variable {P : Program} {w : World} {K : PySem.W.Frag} {mg : Str → Option Value} {base : Heap}
theorem ok_law {f : Addr} {fd : FuncData} (D : C8.Def K mg "law" s_law f fd) (c__law_due : C8.Cal P w K mg base 5 "_law_due" (sp__law_due K) []) (c__law_numbers : C8.Cal P w K mg base 1 "_law_numbers" (sp__law_numbers K) []) (c__law_told : C8.Cal P w K mg base 2 "_law_told" (sp__law_told K) []) (c__law_value : C8.Cal P w K mg base 2 "_law_value" (sp__law_value K) []) (c_binary : C8.Cal P w K mg base 6 "binary" (sp_binary K) []) (z_bool : mg "bool" = none) (z_int : mg "int" = none) (z_isinstance : mg "isinstance" = none) (z_list : mg "list" = none) (z_str : mg "str" = none) {p_BINARY : Addr} (g_BINARY : ∃ u, mg "BINARY" = some u ∧ RelV (.ref p_BINARY) u) (h_BINARY : ∀ H : Hp, SqT K H p_BINARY (namesS.map V.str)) :
    FnOk P w K mg base C8.CX0 7 f fd ["script"] (sp_law K) := by
  refine C8.fn0 D.fn sc_law (fun vs H Q E h => ?_) (fun cdv A outer s H vs Q E hr h => ?_)
  · obtain ⟨_, _, rfl, _⟩ := h
    rfl
  refine ⟨_, (pss_cons (ps_set (i := 1) sc_law.nd rfl (.inl rfl) (C8.pe_c c__law_numbers hr (by decide) (by rfl) (pa_cons (pv 0) (pa_cons pe_int pa_nil))))
    (pss_cons (ps_set (i := 2) sc_law.nd rfl (.inl rfl) (pe_lst (pa_cons pe_str (pa_cons pe_str (pa_cons pe_str (pa_cons pe_str (pa_cons pe_str (pa_cons pe_str (pa_cons pe_str (pa_cons pe_str (pa_cons pe_str (pa_cons pe_str (pa_cons pe_str (pa_cons pe_str pa_nil))))))))))))))
    (pss_cons (ps_set (i := 2) sc_law.nd rfl (.inl rfl) (pe_op op_cat (pv 2) (pe_lst (pa_cons pe_str (pa_cons pe_str (pa_cons pe_str (pa_cons pe_str (pa_cons pe_str (pa_cons pe_str (pa_cons pe_str (pa_cons pe_str pa_nil)))))))))))
    (pss_cons (ps_set (i := 2) sc_law.nd rfl (.inl rfl) (pe_op op_cat (pv 2) (pe_lst (pa_cons pe_str pa_nil))))
    (pss_cons (ps_if (pt_cmpR (op_neD (hu64 hr)) (pe_callTy call_list_of (by rfl) z_list (by decide +kernel) (pa_cons (C8.pe_gc rfl g_BINARY) pa_nil)) (pv 2) (nomark _))
      (pss_one (ps_ret pe_bl))
      pss_nil)
    (pss_cons (ps_set (i := 3) sc_law.nd rfl (.inl rfl) (C8.pe_c c__law_value hr (by decide) (by rfl) (pa_cons (pe_ix ix_list (pv 1) pe_int (fun _ _ => rfl)) pa_nil)))
    (pss_cons (ps_set (i := 4) sc_law.nd rfl (.inl rfl) (C8.pe_c c__law_value hr (by decide) (by rfl) (pa_cons (pe_ix ix_list (pv 1) pe_int (fun _ _ => rfl)) pa_nil)))
    (pss_cons (ps_set (i := 5) sc_law.nd rfl (.inl rfl) (pe_op op_mod (pe_callTy call_int1 (by rfl) z_int (by decide +kernel) (pa_cons (pe_ix ix_list (pv 1) pe_int (fun _ _ => rfl)) pa_nil)) pe_int))
    (Evl.pss_cut (ps_if (pt_cmpR op_eq (pv 5) pe_int (nomark _))
      (pss_one (ps_set (i := 4) sc_law.nd rfl (.inl rfl) (pv 3)))
      pss_nil)
    (Evl.pss_cut (ps_if (pt_cmpR op_eq (pv 5) pe_int (nomark _))
      (pss_one (ps_set (i := 4) sc_law.nd rfl (.inl rfl) (pe_ix ix_list (pe_lst (pa_cons pe_int (pa_cons pe_int (pa_cons (pe_un un_neg pe_int) (pa_cons pe_int (pa_cons pe_int (pa_cons (pe_un un_neg pe_int) pa_nil))))))) (pe_op op_mod (pe_op op_fdiv (pe_callTy call_int1 (by rfl) z_int (by decide +kernel) (pa_cons (pe_ix ix_list (pv 1) pe_int (fun _ _ => rfl)) pa_nil)) pe_int) pe_int) (fun _ _ => rfl))))
      pss_nil)
    (Evl.pss_cut (ps_if (pt_cmpR op_eq (pv 5) pe_int (nomark _))
      (pss_cons (ps_set (i := 3) sc_law.nd rfl (.inl rfl) (pe_op op_sub (pe_op op_mod (pe_op op_fdiv (pe_callTy call_int1 (by rfl) z_int (by decide +kernel) (pa_cons (pe_ix ix_list (pv 1) pe_int (fun _ _ => rfl)) pa_nil)) pe_int) pe_int) pe_int))
    (pss_one (ps_set (i := 4) sc_law.nd rfl (.inl rfl) (pe_op op_sub (pe_op op_mod (pe_op op_fdiv (pe_callTy call_int1 (by rfl) z_int (by decide +kernel) (pa_cons (pe_ix ix_list (pv 1) pe_int (fun _ _ => rfl)) pa_nil)) pe_int) pe_int) pe_int))))
      pss_nil)
    (Evl.pss_cut (ps_if (pt_cmpR op_eq (pv 5) pe_int (nomark _))
      (pss_cons (ps_set (i := 3) sc_law.nd rfl (.inl rfl) (pe_op op_sub (pe_op op_mod (pe_op op_fdiv (pe_callTy call_int1 (by rfl) z_int (by decide +kernel) (pa_cons (pe_ix ix_list (pv 1) pe_int (fun _ _ => rfl)) pa_nil)) pe_int) pe_int) pe_int))
    (pss_one (ps_set (i := 4) sc_law.nd rfl (.inl rfl) (pe_op op_sub (pe_op op_mod (pe_op op_fdiv (pe_callTy call_int1 (by rfl) z_int (by decide +kernel) (pa_cons (pe_ix ix_list (pv 1) pe_int (fun _ _ => rfl)) pa_nil)) pe_int) pe_int) pe_int))))
      pss_nil)
    (Evl.pss_cut (ps_if (PW.pt (pw_and (pt_cmpR op_eq (pv 5) pe_int (nomark _)) (pw_and (pt_val (pe_callB call_isi (by rfl) z_isinstance (by decide +kernel) (pa_cons (pv 3) (pa_cons (pe_bltn (v := .ty "int") (u := .type "int") rfl z_int (by decide +kernel) rfl) pa_nil)))) (pw_and1 (pt_not (pt_val (pe_callB call_isi (by rfl) z_isinstance (by decide +kernel) (pa_cons (pv 3) (pa_cons (pe_bltn (v := .ty "bool") (u := .type "bool") rfl z_bool (by decide +kernel) rfl) pa_nil)))))))))
      (pss_one (ps_set (i := 4) sc_law.nd rfl (.inl rfl) (pe_op op_sub (pe_op op_mod (pe_callTy call_int1 (by rfl) z_int (by decide +kernel) (pa_cons (pe_ix ix_list (pv 1) pe_int (fun _ _ => rfl)) pa_nil)) pe_int) pe_int)))
      pss_nil)
    (pss_cons (ps_for PassesOwn.never rfl (pi_list (pv 2)) (pg_name (i := 6) sc_law.nd rfl (.inl rfl))
      (pss_one (ps_if (pt_cmpR op_notIn_seq (pv 6) (pe_tup (pa_cons pe_str (pa_cons pe_str (pa_cons pe_str pa_nil)))) (by with_unfolding_all rfl))
      (pss_cons (ps_if (pt_not (pt_val (C8.pe_c c__law_told hr (by decide) (by rfl) (pa_cons (C8.pe_c c_binary hr (by decide) (by rfl) (pa_cons (pv 6) (pa_cons (pv 3) (pa_cons (pv 4) pa_nil)))) (pa_cons (C8.pe_c c__law_due hr (by decide) (by rfl) (pa_cons (pv 6) (pa_cons (pv 3) (pa_cons (pv 4) pa_nil)))) pa_nil)))))
      (pss_one (ps_ret pe_bl))
      pss_nil)
    (pss_one (ps_if (pt_not (pt_val (C8.pe_c c__law_told hr (by decide) (by rfl) (pa_cons (C8.pe_c c_binary hr (by decide) (by rfl) (pa_cons (pv 6) (pa_cons (pv 4) (pa_cons (pv 3) pa_nil)))) (pa_cons (C8.pe_c c__law_due hr (by decide) (by rfl) (pa_cons (pv 6) (pa_cons (pv 4) (pa_cons (pv 3) pa_nil)))) pa_nil)))))
      (pss_one (ps_ret pe_bl))
      pss_nil)))
      (pss_one (ps_if (PW.pt (pw_and (pt_not (PW.pt (pw_and (pt_val (pe_callB call_isi (by rfl) z_isinstance (by decide +kernel) (pa_cons (pv 3) (pa_cons (pe_bltn (v := .ty "str") (u := .type "str") rfl z_str (by decide +kernel) rfl) pa_nil)))) (pw_and1 (pt_val (pe_callB call_isi (by rfl) z_isinstance (by decide +kernel) (pa_cons (pv 4) (pa_cons (pe_bltn (v := .ty "str") (u := .type "str") rfl z_str (by decide +kernel) rfl) pa_nil)))))))) (pw_and1 (pt_cmpR op_notN (C8.pe_c c_binary hr (by decide) (by rfl) (pa_cons (pv 6) (pa_cons (pv 3) (pa_cons (pv 4) pa_nil)))) pe_non (nomark _)))))
      (pss_one (ps_ret pe_bl))
      pss_nil)))))
    (pss_one (ps_ret pe_bl)))))))))))))))), ?_⟩
  obtain ⟨a, ns, rfl, hS, h63, q⟩ := h
  refine q_asgL (xs := (lawN ns 4).map V.int) (el_call (ea_cons (ev_var rfl) (ea_cons ev_c ea_nil)) fun H1 e Q q E => ⟨a, ns, 4, rfl, ex_l e hS, h63, by decide, q⟩) fun p1 H1 hp1 e1 h1 => ?_
  have i0 := lawN_at (ns := ns) (c := 4) (i := 0) (by decide)
  have i1 := lawN_at (ns := ns) (c := 4) (i := 1) (by decide)
  have i2 := lawN_at (ns := ns) (c := 4) (i := 2) (by decide)
  have i3 := lawN_at (ns := ns) (c := 4) (i := 3) (by decide)
  generalize cellN ns 0 = n0 at i0
  generalize cellN ns 1 = n1 at i1
  generalize cellN ns 2 = n2 at i2
  generalize cellN ns 3 = n3 at i3
  have g0 : ∀ {σ : L2.St} {H' : Hp}, σ[1]? = some (some (V.ref p1)) → Ex H1 H' → Ev (tOp (rIxL K) (tVar 1) (tC (.int 0))) σ H' (.int n0) := fun hσ e => ev_op (ev_var hσ) ev_c (rv_ixL (sq_of (e _ _ h1)) i0)
  have g1 : ∀ {σ : L2.St} {H' : Hp}, σ[1]? = some (some (V.ref p1)) → Ex H1 H' → Ev (tOp (rIxL K) (tVar 1) (tC (.int 1))) σ H' (.int n1) := fun hσ e => ev_op (ev_var hσ) ev_c (rv_ixL (sq_of (e _ _ h1)) i1)
  have g2 : ∀ {σ : L2.St} {H' : Hp}, σ[1]? = some (some (V.ref p1)) → Ex H1 H' → Ev (tOp (rIxL K) (tVar 1) (tC (.int 2))) σ H' (.int n2) := fun hσ e => ev_op (ev_var hσ) ev_c (rv_ixL (sq_of (e _ _ h1)) i2)
  have g3 : ∀ {σ : L2.St} {H' : Hp}, σ[1]? = some (some (V.ref p1)) → Ex H1 H' → Ev (tOp (rIxL K) (tVar 1) (tC (.int 3))) σ H' (.int n3) := fun hσ e => ev_op (ev_var hσ) ev_c (rv_ixL (sq_of (e _ _ h1)) i3)
  refine q_asgL (xs := (namesS.take 12).map V.str) (el_lst (by repeat (first | exact ea_nil | refine ea_cons ev_c ?_)) (by show 12 ≤ 100000; decide)) fun p2 H2 hp2 e2 h2 => ?_
  refine q_asgL (xs := (namesS.take 12).map V.str ++ ((namesS.drop 12).take 8).map V.str) (el_catN (ev_var rfl) h2 (el_lst (by repeat (first | exact ea_nil | refine ea_cons ev_c ?_)) (by show 8 ≤ 100000; decide)) (by show 12 + 8 ≤ 100000; decide)) fun p3 H3 hp3 e3 h3 => ?_
  refine q_asgL (xs := namesS.map V.str) (el_catN (xs := (namesS.take 12).map V.str ++ ((namesS.drop 12).take 8).map V.str) (ys := [V.str "add months"]) (ev_var rfl) h3 (el_lst (ea_cons ev_c ea_nil) (by show 1 ≤ 100000; decide)) (by show 20 + 1 ≤ 100000; decide)) fun p4 H4 hp4 e4 h4 => ?_
  have x4 : Ex H1 H4 := (e2.trans e3).trans e4
  have sh : SeqAt.shaped (.list (namesS.map PyData.str)) = true := by decide +kernel
  have er : PyData.eqv (.list (namesS.map PyData.str)) (.list (namesS.map PyData.str)) = true := PySem.SeqAt.eqv_refl _ (SeqAt.canLay_of_shaped sh)
  refine q_when (b := !PyData.eqv (.list (namesS.map PyData.str)) (.list (namesS.map PyData.str))) (et_test (ev_neD (ed_strs (el_listT ev_c h_BINARY)) (ed_val (ev_var rfl) (.lst (sq_of h4) dp_strs)) sh sh)) (fun hb => by rw [er] at hb; cases hb) fun _ H5 e5 => ?_
  have x5 := x4.trans e5
  refine q_asg (ec_value (g0 rfl x5)) fun H6 e6 => ?_
  refine q_asg (ec_value (g1 rfl (x5.trans e6))) fun H7 e7 => ?_
  refine q_asg (v := .int (n2 % 6)) (ev_op (ev_int (g2 rfl ((x5.trans e6).trans e7))) ev_c (rv_I (by decide))) fun H8 e8 => ?_
  have x8 := ((x5.trans e6).trans e7).trans e8
  have h8 : H8 p4 = some (.lst (namesS.map V.str)) := (((e5.trans e6).trans e7).trans e8) _ _ h4
  have s0 := (lawV_ok n0).sm
  have s1 := (lawV_ok n1).sm
  generalize lawV n0 = x at *
  generalize lawV n1 = y at *
  refine q_cut (M := fun σ H' => ∃ x y, σ = [some (.ref a), some (.ref p1), some (.ref p4), some x, some y, some (.int (n2 % 6)), none] ∧ Sm x ∧ Sm y ∧ Ex H8 H') ?_ ?_
  · exact s_when (b := decide (V.int (n2 % 6) = V.int 0)) (by walk_at "et") (fun _ H9 e9 => s_asg (ev_var rfl) fun Ha ea => ⟨_, _, rfl, s0, s0, e9.trans ea⟩) fun _ H9 e9 => ⟨_, _, rfl, s0, s1, e9⟩
  rintro σ1 H9 ⟨x, y, rfl, s0, s1, e9⟩
  refine q_cut (M := fun σ H' => ∃ x y, σ = [some (.ref a), some (.ref p1), some (.ref p4), some x, some y, some (.int (n2 % 6)), none] ∧ Sm x ∧ Sm y ∧ Ex H8 H') ?_ ?_
  · refine s_when (b := decide (V.int (n2 % 6) = V.int 1)) (by walk_at "et") (fun _ Ha ea => ?_) fun _ Ha ea => ⟨_, _, rfl, s0, s1, e9.trans ea⟩
    have hl : ∃ m : Int, atI ([.int 0, .int 1, .int (-1), .int 7, .int 12, .int (-13)] : List V) (n2 / 6 % 6) = some (.int m) ∧ -1000000000000000 ≤ m ∧ m ≤ 1000000000000000 := by
      have h : n2 / 6 % 6 = 0 ∨ n2 / 6 % 6 = 1 ∨ n2 / 6 % 6 = 2 ∨ n2 / 6 % 6 = 3 ∨ n2 / 6 % 6 = 4 ∨ n2 / 6 % 6 = 5 := by omega
      rcases h with e | e | e | e | e | e <;> rw [e] <;> exact ⟨_, rfl, by decide, by decide⟩
    obtain ⟨m, hm, hmb⟩ := hl
    refine s_asg (v := .int m) (ev_opL1 (el_lst (ea_cons ev_c (ea_cons ev_c (ea_cons (ev_un ev_c ru_neg) (ea_cons ev_c (ea_cons ev_c (ea_cons (ev_un ev_c ru_neg) ea_nil)))))) (by show 6 ≤ 100000; decide)) (fun Hb eb => ev_op (ev_op (ev_int (g2 rfl ((x8.trans e9).trans (ea.trans eb)))) ev_c (rv_I ⟨by decide, by decide⟩)) ev_c (rv_I (by decide))) fun p Hb hp eb => rv_ixL (sq_of hp) hm) fun Hb eb => ⟨_, _, rfl, s0, .int m hmb, (e9.trans ea).trans eb⟩
  clear s0 s1 e9
  rintro σ1 H9 ⟨x, y, rfl, s0, s1, e9⟩
  refine q_cut (M := fun σ H' => ∃ x y, σ = [some (.ref a), some (.ref p1), some (.ref p4), some x, some y, some (.int (n2 % 6)), none] ∧ Sm x ∧ Sm y ∧ Ex H8 H') ?_ ?_
  · refine s_when (b := decide (V.int (n2 % 6) = V.int 2)) (by walk_at "et") (fun _ Ha ea => ?_) fun _ Ha ea => ⟨_, _, rfl, s0, s1, e9.trans ea⟩
    have xa := (x8.trans e9).trans ea
    refine q_asg (v := .int (n0 / 8 % 3652059 - 719162)) (ev_op (ev_op (ev_op (ev_int (g0 rfl xa)) ev_c (rv_I ⟨by decide, by decide⟩)) ev_c (rv_I (by decide))) ev_c rv_I0) fun Hb eb => ?_
    exact s_asg (v := .int (n2 / 6 % 260001 - 130000)) (ev_op (ev_op (ev_op (ev_int (g2 rfl (xa.trans eb))) ev_c (rv_I ⟨by decide, by decide⟩)) ev_c (rv_I (by decide))) ev_c rv_I0) fun Hc ec => ⟨_, _, rfl, .int _ (by omega), .int _ (by omega), ((e9.trans ea).trans eb).trans ec⟩
  clear s0 s1 e9
  rintro σ1 H9 ⟨x, y, rfl, s0, s1, e9⟩
  refine q_cut (M := fun σ H' => ∃ x y, σ = [some (.ref a), some (.ref p1), some (.ref p4), some x, some y, some (.int (n2 % 6)), none] ∧ Sm x ∧ Sm y ∧ Ex H8 H') ?_ ?_
  · refine s_when (b := decide (V.int (n2 % 6) = V.int 3)) (by walk_at "et") (fun _ Ha ea => ?_) fun _ Ha ea => ⟨_, _, rfl, s0, s1, e9.trans ea⟩
    have xa := (x8.trans e9).trans ea
    refine q_asg (v := .int (n0 / 8 % 3652059 - 719162)) (ev_op (ev_op (ev_op (ev_int (g0 rfl xa)) ev_c (rv_I ⟨by decide, by decide⟩)) ev_c (rv_I (by decide))) ev_c rv_I0) fun Hb eb => ?_
    exact s_asg (v := .int (n2 / 6 % 61 - 30)) (ev_op (ev_op (ev_op (ev_int (g2 rfl (xa.trans eb))) ev_c (rv_I ⟨by decide, by decide⟩)) ev_c (rv_I (by decide))) ev_c rv_I0) fun Hc ec => ⟨_, _, rfl, .int _ (by omega), .int _ (by omega), ((e9.trans ea).trans eb).trans ec⟩
  clear s0 s1 e9
  rintro σ1 H9 ⟨x, y, rfl, s0, s1, e9⟩
  refine q_cut (M := fun σ H' => ∃ x y, σ = [some (.ref a), some (.ref p1), some (.ref p4), some x, some y, some (.int (n2 % 6)), none] ∧ Sm x ∧ Sm y ∧ Ex H8 H') ?_ ?_
  · obtain ⟨b1, hb1⟩ := kit_int s0.ok.pl
    obtain ⟨b2, hb2⟩ := kit_bool s0.ok.pl
    refine s_when (b := decide (V.int (n2 % 6) = V.int 4) && (b1 && !b2)) (et_and (by walk_at "et") fun _ => et_and (et_B (ev_isiP (ev_var rfl) s0.ok.pl hb1)) fun _ => et_not (et_B (ev_isiP (ev_var rfl) s0.ok.pl hb2))) (fun _ Ha ea => ?_) fun _ Ha ea => ⟨_, _, rfl, s0, s1, e9.trans ea⟩
    exact s_asg (v := .int (n3 % 200001 - 100000)) (ev_op (ev_op (ev_int (g3 rfl ((x8.trans e9).trans ea))) ev_c (rv_I (by decide))) ev_c rv_I0) fun Hc ec => ⟨_, _, rfl, s0, .int _ (by omega), (e9.trans ea).trans ec⟩
  clear s0 s1 e9
  rintro σ1 H9 ⟨x, y, rfl, s0, s1, e9⟩
  refine q_forLn (ev_var rfl) (sq_of (e9 _ _ h8)) (fun i σ H' => ∃ y6, σ = [some (.ref a), some (.ref p1), some (.ref p4), some x, some y, some (.int (n2 % 6)), y6] ∧ Ex H8 H') (fun Ha ea => ⟨none, rfl, e9.trans ea⟩)
    (fun i σ Ha _ hw => ?_) (fun i v σ Ha hv hw => ?_) (fun σ Ha hw => ?_)
  · obtain ⟨y6, rfl, ea⟩ := hw
    exact sq_of (ea _ _ h8)
  · obtain ⟨y6, rfl, ea⟩ := hw
    obtain ⟨nm, hnm, rfl⟩ := List.mem_map.mp (List.mem_of_getElem? hv)
    have tst : ∀ {σ : L2.St}, σ[6]? = some (some (.str nm)) → EvT (tTest (tOp (rIn K true) (tVar 6) (tTup (tCons (tC (.str "join")) (tCons (tC (.str "like")) (tCons (tC (.str "position")) tNil)))))) σ Ha (!inV (.str nm) txtL) := fun hσ => et_test (ev_niU (ev_var hσ) (eu_tup (ea_cons ev_c (ea_cons ev_c (ea_cons ev_c ea_nil))) (by show 3 ≤ 100000; decide)) rfl rfl)
    rcases each_name hnm s0.ok s1.ok with ⟨hin, o1⟩ | ⟨hin, o1⟩
    · rcases each_name hnm s1.ok s0.ok with ⟨_, o2⟩ | ⟨hin2, _⟩
      · refine s_if (tst rfl) (fun _ Hb eb => ?_) fun hb => by rw [hin] at hb; cases hb
        refine q_when (b := !true) (et_not (et_B (ec_told (opn_ok s0.ok s1.ok o1) (ec_binary o1 s0 s1 (ev_var rfl) (ev_var rfl) (ev_var rfl)) (ec_due s0 s1 (ev_var rfl) (ev_var rfl) (ev_var rfl))))) (fun hb => nomatch hb) fun _ Hc ec => ?_
        exact s_when (b := !true) (et_not (et_B (ec_told (opn_ok s1.ok s0.ok o2) (ec_binary o2 s1 s0 (ev_var rfl) (ev_var rfl) (ev_var rfl)) (ec_due s1 s0 (ev_var rfl) (ev_var rfl) (ev_var rfl))))) (fun hb => nomatch hb) fun _ Hd ed => ⟨_, rfl, ((ea.trans eb).trans ec).trans ed⟩
      · rw [hin] at hin2
        cases hin2
    · refine s_if (tst rfl) (fun hb => by rw [hin] at hb; cases hb) fun _ Hb eb => ?_
      refine s_when (b := (!(isStr x && isStr y)) && (!decide (V.non = V.non))) (et_and (et_not (et_and (et_B (ev_isStr (ev_var rfl) s0.ok.pl)) fun _ => et_B (ev_isStr (ev_var rfl) s1.ok.pl))) fun hs => et_test (ev_op (ec_binary (o1 (by rw [Bool.not_eq_true'] at hs; exact hs)) s0 s1 (ev_var rfl) (ev_var rfl) (ev_var rfl)) ev_c rv_notN)) (fun hb => ?_) fun _ Hc ec => ⟨_, rfl, (ea.trans eb).trans ec⟩
      rw [decide_eq_true rfl, Bool.and_comm] at hb
      exact nomatch hb
  · obtain ⟨y6, rfl, ea⟩ := hw
    exact s_ret ev_c fun Hb _ => q Hb
end
theorem all_mk {P : Program} {w : World} {K : PySem.W.Frag} {h : Heap} {mg : Str → Option Value} {fa : Addr} (X : K.In h) (G : h.Ns mainGlobals mg) (hfa : mg "law" = some (.ref fa))
    {f0 : Addr} {od0 an0 : Option Addr} {sl0 : Array (Option Value)} {oc0 kV0 dc0 pm0 cd0 ct0 : Value} (a0 : PySem.W.nsIn K mainGlobals "kind_rank" = some (some (.ref f0))) (l0 : K.lookup f0 = some ⟨oc0, od0, .func (PySem.W.fnOf "kind_rank" "kind_rank" (C8.fnArgs s_kind_rank) (C8.fnBody s_kind_rank) (C8.fnScope s_kind_rank) .none kV0 dc0 pm0 an0 cd0 ct0), sl0⟩) (b0 : PySem.W.codeIn K cd0 "kind_rank" = true) (k0 : PySem.W.keepIn K (.ref f0) = true)
    {f1 : Addr} {od1 an1 : Option Addr} {sl1 : Array (Option Value)} {oc1 kV1 dc1 pm1 cd1 ct1 : Value} (a1 : PySem.W.nsIn K mainGlobals "is_integer" = some (some (.ref f1))) (l1 : K.lookup f1 = some ⟨oc1, od1, .func (PySem.W.fnOf "is_integer" "is_integer" (C8.fnArgs s_is_integer) (C8.fnBody s_is_integer) (C8.fnScope s_is_integer) .none kV1 dc1 pm1 an1 cd1 ct1), sl1⟩) (b1 : PySem.W.codeIn K cd1 "is_integer" = true) (k1 : PySem.W.keepIn K (.ref f1) = true)
    {f2 : Addr} {od2 an2 : Option Addr} {sl2 : Array (Option Value)} {oc2 kV2 dc2 pm2 cd2 ct2 : Value} (a2 : PySem.W.nsIn K mainGlobals "rank" = some (some (.ref f2))) (l2 : K.lookup f2 = some ⟨oc2, od2, .func (PySem.W.fnOf "rank" "rank" (C8.fnArgs s_rank) (C8.fnBody s_rank) (C8.fnScope s_rank) .none kV2 dc2 pm2 an2 cd2 ct2), sl2⟩) (b2 : PySem.W.codeIn K cd2 "rank" = true) (k2 : PySem.W.keepIn K (.ref f2) = true)
    {f3 : Addr} {od3 an3 : Option Addr} {sl3 : Array (Option Value)} {oc3 kV3 dc3 pm3 cd3 ct3 : Value} (a3 : PySem.W.nsIn K mainGlobals "same" = some (some (.ref f3))) (l3 : K.lookup f3 = some ⟨oc3, od3, .func (PySem.W.fnOf "same" "same" (C8.fnArgs s_same) (C8.fnBody s_same) (C8.fnScope s_same) .none kV3 dc3 pm3 an3 cd3 ct3), sl3⟩) (b3 : PySem.W.codeIn K cd3 "same" = true) (k3 : PySem.W.keepIn K (.ref f3) = true)
    {f4 : Addr} {od4 an4 : Option Addr} {sl4 : Array (Option Value)} {oc4 kV4 dc4 pm4 cd4 ct4 : Value} (a4 : PySem.W.nsIn K mainGlobals "before" = some (some (.ref f4))) (l4 : K.lookup f4 = some ⟨oc4, od4, .func (PySem.W.fnOf "before" "before" (C8.fnArgs s_before) (C8.fnBody s_before) (C8.fnScope s_before) .none kV4 dc4 pm4 an4 cd4 ct4), sl4⟩) (b4 : PySem.W.codeIn K cd4 "before" = true) (k4 : PySem.W.keepIn K (.ref f4) = true)
    {f5 : Addr} {od5 an5 : Option Addr} {sl5 : Array (Option Value)} {oc5 kV5 dc5 pm5 cd5 ct5 : Value} (a5 : PySem.W.nsIn K mainGlobals "is_day" = some (some (.ref f5))) (l5 : K.lookup f5 = some ⟨oc5, od5, .func (PySem.W.fnOf "is_day" "is_day" (C8.fnArgs s_is_day) (C8.fnBody s_is_day) (C8.fnScope s_is_day) .none kV5 dc5 pm5 an5 cd5 ct5), sl5⟩) (b5 : PySem.W.codeIn K cd5 "is_day" = true) (k5 : PySem.W.keepIn K (.ref f5) = true)
    {f6 : Addr} {od6 an6 : Option Addr} {sl6 : Array (Option Value)} {oc6 kV6 dc6 pm6 cd6 ct6 : Value} (a6 : PySem.W.nsIn K mainGlobals "_is_leap" = some (some (.ref f6))) (l6 : K.lookup f6 = some ⟨oc6, od6, .func (PySem.W.fnOf "_is_leap" "_is_leap" (C8.fnArgs s__is_leap) (C8.fnBody s__is_leap) (C8.fnScope s__is_leap) .none kV6 dc6 pm6 an6 cd6 ct6), sl6⟩) (b6 : PySem.W.codeIn K cd6 "_is_leap" = true) (k6 : PySem.W.keepIn K (.ref f6) = true)
    {f7 : Addr} {od7 an7 : Option Addr} {sl7 : Array (Option Value)} {oc7 kV7 dc7 pm7 cd7 ct7 : Value} (a7 : PySem.W.nsIn K mainGlobals "month_length" = some (some (.ref f7))) (l7 : K.lookup f7 = some ⟨oc7, od7, .func (PySem.W.fnOf "month_length" "month_length" (C8.fnArgs s_month_length) (C8.fnBody s_month_length) (C8.fnScope s_month_length) .none kV7 dc7 pm7 an7 cd7 ct7), sl7⟩) (b7 : PySem.W.codeIn K cd7 "month_length" = true) (k7 : PySem.W.keepIn K (.ref f7) = true)
    {f8 : Addr} {od8 an8 : Option Addr} {sl8 : Array (Option Value)} {oc8 kV8 dc8 pm8 cd8 ct8 : Value} (a8 : PySem.W.nsIn K mainGlobals "day_of" = some (some (.ref f8))) (l8 : K.lookup f8 = some ⟨oc8, od8, .func (PySem.W.fnOf "day_of" "day_of" (C8.fnArgs s_day_of) (C8.fnBody s_day_of) (C8.fnScope s_day_of) .none kV8 dc8 pm8 an8 cd8 ct8), sl8⟩) (b8 : PySem.W.codeIn K cd8 "day_of" = true) (k8 : PySem.W.keepIn K (.ref f8) = true)
    {f9 : Addr} {od9 an9 : Option Addr} {sl9 : Array (Option Value)} {oc9 kV9 dc9 pm9 cd9 ct9 : Value} (a9 : PySem.W.nsIn K mainGlobals "date_of" = some (some (.ref f9))) (l9 : K.lookup f9 = some ⟨oc9, od9, .func (PySem.W.fnOf "date_of" "date_of" (C8.fnArgs s_date_of) (C8.fnBody s_date_of) (C8.fnScope s_date_of) .none kV9 dc9 pm9 an9 cd9 ct9), sl9⟩) (b9 : PySem.W.codeIn K cd9 "date_of" = true) (k9 : PySem.W.keepIn K (.ref f9) = true)
    {f10 : Addr} {od10 an10 : Option Addr} {sl10 : Array (Option Value)} {oc10 kV10 dc10 pm10 cd10 ct10 : Value} (a10 : PySem.W.nsIn K mainGlobals "limited" = some (some (.ref f10))) (l10 : K.lookup f10 = some ⟨oc10, od10, .func (PySem.W.fnOf "limited" "limited" (C8.fnArgs s_limited) (C8.fnBody s_limited) (C8.fnScope s_limited) .none kV10 dc10 pm10 an10 cd10 ct10), sl10⟩) (b10 : PySem.W.codeIn K cd10 "limited" = true) (k10 : PySem.W.keepIn K (.ref f10) = true)
    {f11 : Addr} {od11 an11 : Option Addr} {sl11 : Array (Option Value)} {oc11 kV11 dc11 pm11 cd11 ct11 : Value} (a11 : PySem.W.nsIn K mainGlobals "rounded" = some (some (.ref f11))) (l11 : K.lookup f11 = some ⟨oc11, od11, .func (PySem.W.fnOf "rounded" "rounded" (C8.fnArgs s_rounded) (C8.fnBody s_rounded) (C8.fnScope s_rounded) .none kV11 dc11 pm11 an11 cd11 ct11), sl11⟩) (b11 : PySem.W.codeIn K cd11 "rounded" = true) (k11 : PySem.W.keepIn K (.ref f11) = true)
    {f12 : Addr} {od12 an12 : Option Addr} {sl12 : Array (Option Value)} {oc12 kV12 dc12 pm12 cd12 ct12 : Value} (a12 : PySem.W.nsIn K mainGlobals "quotient" = some (some (.ref f12))) (l12 : K.lookup f12 = some ⟨oc12, od12, .func (PySem.W.fnOf "quotient" "quotient" (C8.fnArgs s_quotient) (C8.fnBody s_quotient) (C8.fnScope s_quotient) .none kV12 dc12 pm12 an12 cd12 ct12), sl12⟩) (b12 : PySem.W.codeIn K cd12 "quotient" = true) (k12 : PySem.W.keepIn K (.ref f12) = true)
    {f13 : Addr} {od13 an13 : Option Addr} {sl13 : Array (Option Value)} {oc13 kV13 dc13 pm13 cd13 ct13 : Value} (a13 : PySem.W.nsIn K mainGlobals "both" = some (some (.ref f13))) (l13 : K.lookup f13 = some ⟨oc13, od13, .func (PySem.W.fnOf "both" "both" (C8.fnArgs s_both) (C8.fnBody s_both) (C8.fnScope s_both) .none kV13 dc13 pm13 an13 cd13 ct13), sl13⟩) (b13 : PySem.W.codeIn K cd13 "both" = true) (k13 : PySem.W.keepIn K (.ref f13) = true)
    {f14 : Addr} {od14 an14 : Option Addr} {sl14 : Array (Option Value)} {oc14 kV14 dc14 pm14 cd14 ct14 : Value} (a14 : PySem.W.nsIn K mainGlobals "either" = some (some (.ref f14))) (l14 : K.lookup f14 = some ⟨oc14, od14, .func (PySem.W.fnOf "either" "either" (C8.fnArgs s_either) (C8.fnBody s_either) (C8.fnScope s_either) .none kV14 dc14 pm14 an14 cd14 ct14), sl14⟩) (b14 : PySem.W.codeIn K cd14 "either" = true) (k14 : PySem.W.keepIn K (.ref f14) = true)
    {f15 : Addr} {od15 an15 : Option Addr} {sl15 : Array (Option Value)} {oc15 kV15 dc15 pm15 cd15 ct15 : Value} (a15 : PySem.W.nsIn K mainGlobals "_both" = some (some (.ref f15))) (l15 : K.lookup f15 = some ⟨oc15, od15, .func (PySem.W.fnOf "_both" "_both" (C8.fnArgs s__both) (C8.fnBody s__both) (C8.fnScope s__both) .none kV15 dc15 pm15 an15 cd15 ct15), sl15⟩) (b15 : PySem.W.codeIn K cd15 "_both" = true) (k15 : PySem.W.keepIn K (.ref f15) = true)
    {f16 : Addr} {od16 an16 : Option Addr} {sl16 : Array (Option Value)} {oc16 kV16 dc16 pm16 cd16 ct16 : Value} (a16 : PySem.W.nsIn K mainGlobals "_either" = some (some (.ref f16))) (l16 : K.lookup f16 = some ⟨oc16, od16, .func (PySem.W.fnOf "_either" "_either" (C8.fnArgs s__either) (C8.fnBody s__either) (C8.fnScope s__either) .none kV16 dc16 pm16 an16 cd16 ct16), sl16⟩) (b16 : PySem.W.codeIn K cd16 "_either" = true) (k16 : PySem.W.keepIn K (.ref f16) = true)
    {f17 : Addr} {od17 an17 : Option Addr} {sl17 : Array (Option Value)} {oc17 kV17 dc17 pm17 cd17 ct17 : Value} (a17 : PySem.W.nsIn K mainGlobals "_same" = some (some (.ref f17))) (l17 : K.lookup f17 = some ⟨oc17, od17, .func (PySem.W.fnOf "_same" "_same" (C8.fnArgs s__same) (C8.fnBody s__same) (C8.fnScope s__same) .none kV17 dc17 pm17 an17 cd17 ct17), sl17⟩) (b17 : PySem.W.codeIn K cd17 "_same" = true) (k17 : PySem.W.keepIn K (.ref f17) = true)
    {f18 : Addr} {od18 an18 : Option Addr} {sl18 : Array (Option Value)} {oc18 kV18 dc18 pm18 cd18 ct18 : Value} (a18 : PySem.W.nsIn K mainGlobals "_first_known" = some (some (.ref f18))) (l18 : K.lookup f18 = some ⟨oc18, od18, .func (PySem.W.fnOf "_first_known" "_first_known" (C8.fnArgs s__first_known) (C8.fnBody s__first_known) (C8.fnScope s__first_known) .none kV18 dc18 pm18 an18 cd18 ct18), sl18⟩) (b18 : PySem.W.codeIn K cd18 "_first_known" = true) (k18 : PySem.W.keepIn K (.ref f18) = true)
    {f19 : Addr} {od19 an19 : Option Addr} {sl19 : Array (Option Value)} {oc19 kV19 dc19 pm19 cd19 ct19 : Value} (a19 : PySem.W.nsIn K mainGlobals "_equal" = some (some (.ref f19))) (l19 : K.lookup f19 = some ⟨oc19, od19, .func (PySem.W.fnOf "_equal" "_equal" (C8.fnArgs s__equal) (C8.fnBody s__equal) (C8.fnScope s__equal) .none kV19 dc19 pm19 an19 cd19 ct19), sl19⟩) (b19 : PySem.W.codeIn K cd19 "_equal" = true) (k19 : PySem.W.keepIn K (.ref f19) = true)
    {f20 : Addr} {od20 an20 : Option Addr} {sl20 : Array (Option Value)} {oc20 kV20 dc20 pm20 cd20 ct20 : Value} (a20 : PySem.W.nsIn K mainGlobals "_less" = some (some (.ref f20))) (l20 : K.lookup f20 = some ⟨oc20, od20, .func (PySem.W.fnOf "_less" "_less" (C8.fnArgs s__less) (C8.fnBody s__less) (C8.fnScope s__less) .none kV20 dc20 pm20 an20 cd20 ct20), sl20⟩) (b20 : PySem.W.codeIn K cd20 "_less" = true) (k20 : PySem.W.keepIn K (.ref f20) = true)
    {f21 : Addr} {od21 an21 : Option Addr} {sl21 : Array (Option Value)} {oc21 kV21 dc21 pm21 cd21 ct21 : Value} (a21 : PySem.W.nsIn K mainGlobals "_at_most" = some (some (.ref f21))) (l21 : K.lookup f21 = some ⟨oc21, od21, .func (PySem.W.fnOf "_at_most" "_at_most" (C8.fnArgs s__at_most) (C8.fnBody s__at_most) (C8.fnScope s__at_most) .none kV21 dc21 pm21 an21 cd21 ct21), sl21⟩) (b21 : PySem.W.codeIn K cd21 "_at_most" = true) (k21 : PySem.W.keepIn K (.ref f21) = true)
    {f22 : Addr} {od22 an22 : Option Addr} {sl22 : Array (Option Value)} {oc22 kV22 dc22 pm22 cd22 ct22 : Value} (a22 : PySem.W.nsIn K mainGlobals "_least" = some (some (.ref f22))) (l22 : K.lookup f22 = some ⟨oc22, od22, .func (PySem.W.fnOf "_least" "_least" (C8.fnArgs s__least) (C8.fnBody s__least) (C8.fnScope s__least) .none kV22 dc22 pm22 an22 cd22 ct22), sl22⟩) (b22 : PySem.W.codeIn K cd22 "_least" = true) (k22 : PySem.W.keepIn K (.ref f22) = true)
    {f23 : Addr} {od23 an23 : Option Addr} {sl23 : Array (Option Value)} {oc23 kV23 dc23 pm23 cd23 ct23 : Value} (a23 : PySem.W.nsIn K mainGlobals "_greatest" = some (some (.ref f23))) (l23 : K.lookup f23 = some ⟨oc23, od23, .func (PySem.W.fnOf "_greatest" "_greatest" (C8.fnArgs s__greatest) (C8.fnBody s__greatest) (C8.fnScope s__greatest) .none kV23 dc23 pm23 an23 cd23 ct23), sl23⟩) (b23 : PySem.W.codeIn K cd23 "_greatest" = true) (k23 : PySem.W.keepIn K (.ref f23) = true)
    {f24 : Addr} {od24 an24 : Option Addr} {sl24 : Array (Option Value)} {oc24 kV24 dc24 pm24 cd24 ct24 : Value} (a24 : PySem.W.nsIn K mainGlobals "_add" = some (some (.ref f24))) (l24 : K.lookup f24 = some ⟨oc24, od24, .func (PySem.W.fnOf "_add" "_add" (C8.fnArgs s__add) (C8.fnBody s__add) (C8.fnScope s__add) .none kV24 dc24 pm24 an24 cd24 ct24), sl24⟩) (b24 : PySem.W.codeIn K cd24 "_add" = true) (k24 : PySem.W.keepIn K (.ref f24) = true)
    {f25 : Addr} {od25 an25 : Option Addr} {sl25 : Array (Option Value)} {oc25 kV25 dc25 pm25 cd25 ct25 : Value} (a25 : PySem.W.nsIn K mainGlobals "_subtract" = some (some (.ref f25))) (l25 : K.lookup f25 = some ⟨oc25, od25, .func (PySem.W.fnOf "_subtract" "_subtract" (C8.fnArgs s__subtract) (C8.fnBody s__subtract) (C8.fnScope s__subtract) .none kV25 dc25 pm25 an25 cd25 ct25), sl25⟩) (b25 : PySem.W.codeIn K cd25 "_subtract" = true) (k25 : PySem.W.keepIn K (.ref f25) = true)
    {f26 : Addr} {od26 an26 : Option Addr} {sl26 : Array (Option Value)} {oc26 kV26 dc26 pm26 cd26 ct26 : Value} (a26 : PySem.W.nsIn K mainGlobals "_multiply" = some (some (.ref f26))) (l26 : K.lookup f26 = some ⟨oc26, od26, .func (PySem.W.fnOf "_multiply" "_multiply" (C8.fnArgs s__multiply) (C8.fnBody s__multiply) (C8.fnScope s__multiply) .none kV26 dc26 pm26 an26 cd26 ct26), sl26⟩) (b26 : PySem.W.codeIn K cd26 "_multiply" = true) (k26 : PySem.W.keepIn K (.ref f26) = true)
    {f27 : Addr} {od27 an27 : Option Addr} {sl27 : Array (Option Value)} {oc27 kV27 dc27 pm27 cd27 ct27 : Value} (a27 : PySem.W.nsIn K mainGlobals "_divide" = some (some (.ref f27))) (l27 : K.lookup f27 = some ⟨oc27, od27, .func (PySem.W.fnOf "_divide" "_divide" (C8.fnArgs s__divide) (C8.fnBody s__divide) (C8.fnScope s__divide) .none kV27 dc27 pm27 an27 cd27 ct27), sl27⟩) (b27 : PySem.W.codeIn K cd27 "_divide" = true) (k27 : PySem.W.keepIn K (.ref f27) = true)
    {f28 : Addr} {od28 an28 : Option Addr} {sl28 : Array (Option Value)} {oc28 kV28 dc28 pm28 cd28 ct28 : Value} (a28 : PySem.W.nsIn K mainGlobals "_rest" = some (some (.ref f28))) (l28 : K.lookup f28 = some ⟨oc28, od28, .func (PySem.W.fnOf "_rest" "_rest" (C8.fnArgs s__rest) (C8.fnBody s__rest) (C8.fnScope s__rest) .none kV28 dc28 pm28 an28 cd28 ct28), sl28⟩) (b28 : PySem.W.codeIn K cd28 "_rest" = true) (k28 : PySem.W.keepIn K (.ref f28) = true)
    {f29 : Addr} {od29 an29 : Option Addr} {sl29 : Array (Option Value)} {oc29 kV29 dc29 pm29 cd29 ct29 : Value} (a29 : PySem.W.nsIn K mainGlobals "_multiply_decimals" = some (some (.ref f29))) (l29 : K.lookup f29 = some ⟨oc29, od29, .func (PySem.W.fnOf "_multiply_decimals" "_multiply_decimals" (C8.fnArgs s__multiply_decimals) (C8.fnBody s__multiply_decimals) (C8.fnScope s__multiply_decimals) .none kV29 dc29 pm29 an29 cd29 ct29), sl29⟩) (b29 : PySem.W.codeIn K cd29 "_multiply_decimals" = true) (k29 : PySem.W.keepIn K (.ref f29) = true)
    {f30 : Addr} {od30 an30 : Option Addr} {sl30 : Array (Option Value)} {oc30 kV30 dc30 pm30 cd30 ct30 : Value} (a30 : PySem.W.nsIn K mainGlobals "_divide_decimals" = some (some (.ref f30))) (l30 : K.lookup f30 = some ⟨oc30, od30, .func (PySem.W.fnOf "_divide_decimals" "_divide_decimals" (C8.fnArgs s__divide_decimals) (C8.fnBody s__divide_decimals) (C8.fnScope s__divide_decimals) .none kV30 dc30 pm30 an30 cd30 ct30), sl30⟩) (b30 : PySem.W.codeIn K cd30 "_divide_decimals" = true) (k30 : PySem.W.keepIn K (.ref f30) = true)
    {f31 : Addr} {od31 an31 : Option Addr} {sl31 : Array (Option Value)} {oc31 kV31 dc31 pm31 cd31 ct31 : Value} (a31 : PySem.W.nsIn K mainGlobals "_add_days" = some (some (.ref f31))) (l31 : K.lookup f31 = some ⟨oc31, od31, .func (PySem.W.fnOf "_add_days" "_add_days" (C8.fnArgs s__add_days) (C8.fnBody s__add_days) (C8.fnScope s__add_days) .none kV31 dc31 pm31 an31 cd31 ct31), sl31⟩) (b31 : PySem.W.codeIn K cd31 "_add_days" = true) (k31 : PySem.W.keepIn K (.ref f31) = true)
    {f32 : Addr} {od32 an32 : Option Addr} {sl32 : Array (Option Value)} {oc32 kV32 dc32 pm32 cd32 ct32 : Value} (a32 : PySem.W.nsIn K mainGlobals "_add_months" = some (some (.ref f32))) (l32 : K.lookup f32 = some ⟨oc32, od32, .func (PySem.W.fnOf "_add_months" "_add_months" (C8.fnArgs s__add_months) (C8.fnBody s__add_months) (C8.fnScope s__add_months) .none kV32 dc32 pm32 an32 cd32 ct32), sl32⟩) (b32 : PySem.W.codeIn K cd32 "_add_months" = true) (k32 : PySem.W.keepIn K (.ref f32) = true)
    {f33 : Addr} {od33 an33 : Option Addr} {sl33 : Array (Option Value)} {oc33 kV33 dc33 pm33 cd33 ct33 : Value} (a33 : PySem.W.nsIn K mainGlobals "_are_alike" = some (some (.ref f33))) (l33 : K.lookup f33 = some ⟨oc33, od33, .func (PySem.W.fnOf "_are_alike" "_are_alike" (C8.fnArgs s__are_alike) (C8.fnBody s__are_alike) (C8.fnScope s__are_alike) .none kV33 dc33 pm33 an33 cd33 ct33), sl33⟩) (b33 : PySem.W.codeIn K cd33 "_are_alike" = true) (k33 : PySem.W.keepIn K (.ref f33) = true)
    {f34 : Addr} {od34 an34 : Option Addr} {sl34 : Array (Option Value)} {oc34 kV34 dc34 pm34 cd34 ct34 : Value} (a34 : PySem.W.nsIn K mainGlobals "value_of_two" = some (some (.ref f34))) (l34 : K.lookup f34 = some ⟨oc34, od34, .func (PySem.W.fnOf "value_of_two" "value_of_two" (C8.fnArgs s_value_of_two) (C8.fnBody s_value_of_two) (C8.fnScope s_value_of_two) .none kV34 dc34 pm34 an34 cd34 ct34), sl34⟩) (b34 : PySem.W.codeIn K cd34 "value_of_two" = true) (k34 : PySem.W.keepIn K (.ref f34) = true)
    {f35 : Addr} {od35 an35 : Option Addr} {sl35 : Array (Option Value)} {oc35 kV35 dc35 pm35 cd35 ct35 : Value} (a35 : PySem.W.nsIn K mainGlobals "binary" = some (some (.ref f35))) (l35 : K.lookup f35 = some ⟨oc35, od35, .func (PySem.W.fnOf "binary" "binary" (C8.fnArgs s_binary) (C8.fnBody s_binary) (C8.fnScope s_binary) .none kV35 dc35 pm35 an35 cd35 ct35), sl35⟩) (b35 : PySem.W.codeIn K cd35 "binary" = true) (k35 : PySem.W.keepIn K (.ref f35) = true)
    {f36 : Addr} {od36 an36 : Option Addr} {sl36 : Array (Option Value)} {oc36 kV36 dc36 pm36 cd36 ct36 : Value} (a36 : PySem.W.nsIn K mainGlobals "_law_numbers" = some (some (.ref f36))) (l36 : K.lookup f36 = some ⟨oc36, od36, .func (PySem.W.fnOf "_law_numbers" "_law_numbers" (C8.fnArgs s__law_numbers) (C8.fnBody s__law_numbers) (C8.fnScope s__law_numbers) .none kV36 dc36 pm36 an36 cd36 ct36), sl36⟩) (b36 : PySem.W.codeIn K cd36 "_law_numbers" = true) (k36 : PySem.W.keepIn K (.ref f36) = true)
    {f37 : Addr} {od37 an37 : Option Addr} {sl37 : Array (Option Value)} {oc37 kV37 dc37 pm37 cd37 ct37 : Value} (a37 : PySem.W.nsIn K mainGlobals "_law_is_integer" = some (some (.ref f37))) (l37 : K.lookup f37 = some ⟨oc37, od37, .func (PySem.W.fnOf "_law_is_integer" "_law_is_integer" (C8.fnArgs s__law_is_integer) (C8.fnBody s__law_is_integer) (C8.fnScope s__law_is_integer) .none kV37 dc37 pm37 an37 cd37 ct37), sl37⟩) (b37 : PySem.W.codeIn K cd37 "_law_is_integer" = true) (k37 : PySem.W.keepIn K (.ref f37) = true)
    {f38 : Addr} {od38 an38 : Option Addr} {sl38 : Array (Option Value)} {oc38 kV38 dc38 pm38 cd38 ct38 : Value} (a38 : PySem.W.nsIn K mainGlobals "_law_rank" = some (some (.ref f38))) (l38 : K.lookup f38 = some ⟨oc38, od38, .func (PySem.W.fnOf "_law_rank" "_law_rank" (C8.fnArgs s__law_rank) (C8.fnBody s__law_rank) (C8.fnScope s__law_rank) .none kV38 dc38 pm38 an38 cd38 ct38), sl38⟩) (b38 : PySem.W.codeIn K cd38 "_law_rank" = true) (k38 : PySem.W.keepIn K (.ref f38) = true)
    {f39 : Addr} {od39 an39 : Option Addr} {sl39 : Array (Option Value)} {oc39 kV39 dc39 pm39 cd39 ct39 : Value} (a39 : PySem.W.nsIn K mainGlobals "_law_text" = some (some (.ref f39))) (l39 : K.lookup f39 = some ⟨oc39, od39, .func (PySem.W.fnOf "_law_text" "_law_text" (C8.fnArgs s__law_text) (C8.fnBody s__law_text) (C8.fnScope s__law_text) .none kV39 dc39 pm39 an39 cd39 ct39), sl39⟩) (b39 : PySem.W.codeIn K cd39 "_law_text" = true) (k39 : PySem.W.keepIn K (.ref f39) = true)
    {f40 : Addr} {od40 an40 : Option Addr} {sl40 : Array (Option Value)} {oc40 kV40 dc40 pm40 cd40 ct40 : Value} (a40 : PySem.W.nsIn K mainGlobals "_law_value" = some (some (.ref f40))) (l40 : K.lookup f40 = some ⟨oc40, od40, .func (PySem.W.fnOf "_law_value" "_law_value" (C8.fnArgs s__law_value) (C8.fnBody s__law_value) (C8.fnScope s__law_value) .none kV40 dc40 pm40 an40 cd40 ct40), sl40⟩) (b40 : PySem.W.codeIn K cd40 "_law_value" = true) (k40 : PySem.W.keepIn K (.ref f40) = true)
    {f41 : Addr} {od41 an41 : Option Addr} {sl41 : Array (Option Value)} {oc41 kV41 dc41 pm41 cd41 ct41 : Value} (a41 : PySem.W.nsIn K mainGlobals "_law_told" = some (some (.ref f41))) (l41 : K.lookup f41 = some ⟨oc41, od41, .func (PySem.W.fnOf "_law_told" "_law_told" (C8.fnArgs s__law_told) (C8.fnBody s__law_told) (C8.fnScope s__law_told) .none kV41 dc41 pm41 an41 cd41 ct41), sl41⟩) (b41 : PySem.W.codeIn K cd41 "_law_told" = true) (k41 : PySem.W.keepIn K (.ref f41) = true)
    {f42 : Addr} {od42 an42 : Option Addr} {sl42 : Array (Option Value)} {oc42 kV42 dc42 pm42 cd42 ct42 : Value} (a42 : PySem.W.nsIn K mainGlobals "_law_compared" = some (some (.ref f42))) (l42 : K.lookup f42 = some ⟨oc42, od42, .func (PySem.W.fnOf "_law_compared" "_law_compared" (C8.fnArgs s__law_compared) (C8.fnBody s__law_compared) (C8.fnScope s__law_compared) .none kV42 dc42 pm42 an42 cd42 ct42), sl42⟩) (b42 : PySem.W.codeIn K cd42 "_law_compared" = true) (k42 : PySem.W.keepIn K (.ref f42) = true)
    {f43 : Addr} {od43 an43 : Option Addr} {sl43 : Array (Option Value)} {oc43 kV43 dc43 pm43 cd43 ct43 : Value} (a43 : PySem.W.nsIn K mainGlobals "_law_reckoned" = some (some (.ref f43))) (l43 : K.lookup f43 = some ⟨oc43, od43, .func (PySem.W.fnOf "_law_reckoned" "_law_reckoned" (C8.fnArgs s__law_reckoned) (C8.fnBody s__law_reckoned) (C8.fnScope s__law_reckoned) .none kV43 dc43 pm43 an43 cd43 ct43), sl43⟩) (b43 : PySem.W.codeIn K cd43 "_law_reckoned" = true) (k43 : PySem.W.keepIn K (.ref f43) = true)
    {f44 : Addr} {od44 an44 : Option Addr} {sl44 : Array (Option Value)} {oc44 kV44 dc44 pm44 cd44 ct44 : Value} (a44 : PySem.W.nsIn K mainGlobals "_law_dated" = some (some (.ref f44))) (l44 : K.lookup f44 = some ⟨oc44, od44, .func (PySem.W.fnOf "_law_dated" "_law_dated" (C8.fnArgs s__law_dated) (C8.fnBody s__law_dated) (C8.fnScope s__law_dated) .none kV44 dc44 pm44 an44 cd44 ct44), sl44⟩) (b44 : PySem.W.codeIn K cd44 "_law_dated" = true) (k44 : PySem.W.keepIn K (.ref f44) = true)
    {f45 : Addr} {od45 an45 : Option Addr} {sl45 : Array (Option Value)} {oc45 kV45 dc45 pm45 cd45 ct45 : Value} (a45 : PySem.W.nsIn K mainGlobals "_law_due" = some (some (.ref f45))) (l45 : K.lookup f45 = some ⟨oc45, od45, .func (PySem.W.fnOf "_law_due" "_law_due" (C8.fnArgs s__law_due) (C8.fnBody s__law_due) (C8.fnScope s__law_due) .none kV45 dc45 pm45 an45 cd45 ct45), sl45⟩) (b45 : PySem.W.codeIn K cd45 "_law_due" = true) (k45 : PySem.W.keepIn K (.ref f45) = true)
    {f46 : Addr} {od46 an46 : Option Addr} {sl46 : Array (Option Value)} {oc46 kV46 dc46 pm46 cd46 ct46 : Value} (a46 : PySem.W.nsIn K mainGlobals "law" = some (some (.ref f46))) (l46 : K.lookup f46 = some ⟨oc46, od46, .func (PySem.W.fnOf "law" "law" (C8.fnArgs s_law) (C8.fnBody s_law) (C8.fnScope s_law) .none kV46 dc46 pm46 an46 cd46 ct46), sl46⟩) (b46 : PySem.W.codeIn K cd46 "law" = true) (k46 : PySem.W.keepIn K (.ref f46) = true)
    (z_abs : PySem.W.nsIn K mainGlobals "abs" = some none)
    (z_bool : PySem.W.nsIn K mainGlobals "bool" = some none)
    (z_divmod : PySem.W.nsIn K mainGlobals "divmod" = some none)
    (z_int : PySem.W.nsIn K mainGlobals "int" = some none)
    (z_isinstance : PySem.W.nsIn K mainGlobals "isinstance" = some none)
    (z_len : PySem.W.nsIn K mainGlobals "len" = some none)
    (z_list : PySem.W.nsIn K mainGlobals "list" = some none)
    (z_min : PySem.W.nsIn K mainGlobals "min" = some none)
    (z_range : PySem.W.nsIn K mainGlobals "range" = some none)
    (z_str : PySem.W.nsIn K mainGlobals "str" = some none)
    {p_BINARY : Addr} (q_BINARY : PySem.W.nsIn K mainGlobals "BINARY" = some (some (.ref p_BINARY))) (r_BINARY : ∀ H : Hp, SqT K H p_BINARY (namesS.map V.str))
    {t_FIRST_DAY : Tok} (q_FIRST_DAY : PySem.W.nsIn K mainGlobals "FIRST_DAY" = some (some (.int (-719162) t_FIRST_DAY)))
    {t_GREATEST : Tok} (q_GREATEST : PySem.W.nsIn K mainGlobals "GREATEST" = some (some (.int (1000000000000000) t_GREATEST)))
    {t_LAST_DAY : Tok} (q_LAST_DAY : PySem.W.nsIn K mainGlobals "LAST_DAY" = some (some (.int (2932896) t_LAST_DAY)))
    {t__DAYS_OF_100_YEARS : Tok} (q__DAYS_OF_100_YEARS : PySem.W.nsIn K mainGlobals "_DAYS_OF_100_YEARS" = some (some (.int (36524) t__DAYS_OF_100_YEARS)))
    {t__DAYS_OF_400_YEARS : Tok} (q__DAYS_OF_400_YEARS : PySem.W.nsIn K mainGlobals "_DAYS_OF_400_YEARS" = some (some (.int (146097) t__DAYS_OF_400_YEARS)))
    {t__DAYS_OF_4_YEARS : Tok} (q__DAYS_OF_4_YEARS : PySem.W.nsIn K mainGlobals "_DAYS_OF_4_YEARS" = some (some (.int (1461) t__DAYS_OF_4_YEARS)))
    {t__DAYS_OF_YEAR : Tok} (q__DAYS_OF_YEAR : PySem.W.nsIn K mainGlobals "_DAYS_OF_YEAR" = some (some (.int (365) t__DAYS_OF_YEAR)))
    {t__LAST_YEAR : Tok} (q__LAST_YEAR : PySem.W.nsIn K mainGlobals "_LAST_YEAR" = some (some (.int (9999) t__LAST_YEAR)))
    {p__MONTHS : Addr} (q__MONTHS : PySem.W.nsIn K mainGlobals "_MONTHS" = some (some (.ref p__MONTHS))) (r__MONTHS : ∀ H : Hp, SqT K H p__MONTHS (monthsL.map V.int))
    {p__OF_ALIKE : Addr} {es__OF_ALIKE : Array DictEntry} {n__OF_ALIKE : Nat} (q__OF_ALIKE : PySem.W.nsIn K mainGlobals "_OF_ALIKE" = some (some (.ref p__OF_ALIKE))) (ka__OF_ALIKE : K.lookup p__OF_ALIKE = some ⟨.type "dict", none, .dict es__OF_ALIKE n__OF_ALIKE, #[]⟩) (kl__OF_ALIKE : PySem.W.KeysLit w.params es__OF_ALIKE.toList) (ko__OF_ALIKE : (p__OF_ALIKE == sysModules) = false)
    (e__OF_ALIKE_0 : PySem.W.nsIn K p__OF_ALIKE "equal" = some (some (.ref f19)))
    (e__OF_ALIKE_1 : PySem.W.nsIn K p__OF_ALIKE "less" = some (some (.ref f20)))
    (e__OF_ALIKE_2 : PySem.W.nsIn K p__OF_ALIKE "at most" = some (some (.ref f21)))
    (e__OF_ALIKE_3 : PySem.W.nsIn K p__OF_ALIKE "least" = some (some (.ref f22)))
    (e__OF_ALIKE_4 : PySem.W.nsIn K p__OF_ALIKE "greatest" = some (some (.ref f23)))
    (e__OF_ALIKE_5 : PySem.W.nsIn K p__OF_ALIKE "add" = some none)
    (e__OF_ALIKE_6 : PySem.W.nsIn K p__OF_ALIKE "subtract" = some none)
    (e__OF_ALIKE_7 : PySem.W.nsIn K p__OF_ALIKE "multiply" = some none)
    (e__OF_ALIKE_8 : PySem.W.nsIn K p__OF_ALIKE "divide" = some none)
    (e__OF_ALIKE_9 : PySem.W.nsIn K p__OF_ALIKE "rest" = some none)
    (e__OF_ALIKE_10 : PySem.W.nsIn K p__OF_ALIKE "multiply decimals" = some none)
    (e__OF_ALIKE_11 : PySem.W.nsIn K p__OF_ALIKE "divide decimals" = some none)
    (e__OF_ALIKE_12 : PySem.W.nsIn K p__OF_ALIKE "join" = some none)
    (e__OF_ALIKE_13 : PySem.W.nsIn K p__OF_ALIKE "like" = some none)
    (e__OF_ALIKE_14 : PySem.W.nsIn K p__OF_ALIKE "position" = some none)
    (e__OF_ALIKE_15 : PySem.W.nsIn K p__OF_ALIKE "add days" = some none)
    (e__OF_ALIKE_16 : PySem.W.nsIn K p__OF_ALIKE "add months" = some none)
    {p__OF_ANY : Addr} {es__OF_ANY : Array DictEntry} {n__OF_ANY : Nat} (q__OF_ANY : PySem.W.nsIn K mainGlobals "_OF_ANY" = some (some (.ref p__OF_ANY))) (ka__OF_ANY : K.lookup p__OF_ANY = some ⟨.type "dict", none, .dict es__OF_ANY n__OF_ANY, #[]⟩) (kl__OF_ANY : PySem.W.KeysLit w.params es__OF_ANY.toList) (ko__OF_ANY : (p__OF_ANY == sysModules) = false)
    (e__OF_ANY_0 : PySem.W.nsIn K p__OF_ANY "and" = some (some (.ref f15)))
    (e__OF_ANY_1 : PySem.W.nsIn K p__OF_ANY "or" = some (some (.ref f16)))
    (e__OF_ANY_2 : PySem.W.nsIn K p__OF_ANY "same" = some (some (.ref f17)))
    (e__OF_ANY_3 : PySem.W.nsIn K p__OF_ANY "coalesce" = some (some (.ref f18)))
    (e__OF_ANY_4 : PySem.W.nsIn K p__OF_ANY "equal" = some none)
    (e__OF_ANY_5 : PySem.W.nsIn K p__OF_ANY "less" = some none)
    (e__OF_ANY_6 : PySem.W.nsIn K p__OF_ANY "at most" = some none)
    (e__OF_ANY_7 : PySem.W.nsIn K p__OF_ANY "least" = some none)
    (e__OF_ANY_8 : PySem.W.nsIn K p__OF_ANY "greatest" = some none)
    (e__OF_ANY_9 : PySem.W.nsIn K p__OF_ANY "add" = some none)
    (e__OF_ANY_10 : PySem.W.nsIn K p__OF_ANY "subtract" = some none)
    (e__OF_ANY_11 : PySem.W.nsIn K p__OF_ANY "multiply" = some none)
    (e__OF_ANY_12 : PySem.W.nsIn K p__OF_ANY "divide" = some none)
    (e__OF_ANY_13 : PySem.W.nsIn K p__OF_ANY "rest" = some none)
    (e__OF_ANY_14 : PySem.W.nsIn K p__OF_ANY "multiply decimals" = some none)
    (e__OF_ANY_15 : PySem.W.nsIn K p__OF_ANY "divide decimals" = some none)
    (e__OF_ANY_16 : PySem.W.nsIn K p__OF_ANY "join" = some none)
    (e__OF_ANY_17 : PySem.W.nsIn K p__OF_ANY "like" = some none)
    (e__OF_ANY_18 : PySem.W.nsIn K p__OF_ANY "position" = some none)
    (e__OF_ANY_19 : PySem.W.nsIn K p__OF_ANY "add days" = some none)
    (e__OF_ANY_20 : PySem.W.nsIn K p__OF_ANY "add months" = some none)
    {p__OF_DATES : Addr} {es__OF_DATES : Array DictEntry} {n__OF_DATES : Nat} (q__OF_DATES : PySem.W.nsIn K mainGlobals "_OF_DATES" = some (some (.ref p__OF_DATES))) (ka__OF_DATES : K.lookup p__OF_DATES = some ⟨.type "dict", none, .dict es__OF_DATES n__OF_DATES, #[]⟩) (kl__OF_DATES : PySem.W.KeysLit w.params es__OF_DATES.toList) (ko__OF_DATES : (p__OF_DATES == sysModules) = false)
    (e__OF_DATES_0 : PySem.W.nsIn K p__OF_DATES "add days" = some (some (.ref f31)))
    (e__OF_DATES_1 : PySem.W.nsIn K p__OF_DATES "add months" = some (some (.ref f32)))
    {p__OF_INTEGERS : Addr} {es__OF_INTEGERS : Array DictEntry} {n__OF_INTEGERS : Nat} (q__OF_INTEGERS : PySem.W.nsIn K mainGlobals "_OF_INTEGERS" = some (some (.ref p__OF_INTEGERS))) (ka__OF_INTEGERS : K.lookup p__OF_INTEGERS = some ⟨.type "dict", none, .dict es__OF_INTEGERS n__OF_INTEGERS, #[]⟩) (kl__OF_INTEGERS : PySem.W.KeysLit w.params es__OF_INTEGERS.toList) (ko__OF_INTEGERS : (p__OF_INTEGERS == sysModules) = false)
    (e__OF_INTEGERS_0 : PySem.W.nsIn K p__OF_INTEGERS "add" = some (some (.ref f24)))
    (e__OF_INTEGERS_1 : PySem.W.nsIn K p__OF_INTEGERS "subtract" = some (some (.ref f25)))
    (e__OF_INTEGERS_2 : PySem.W.nsIn K p__OF_INTEGERS "multiply" = some (some (.ref f26)))
    (e__OF_INTEGERS_3 : PySem.W.nsIn K p__OF_INTEGERS "divide" = some (some (.ref f27)))
    (e__OF_INTEGERS_4 : PySem.W.nsIn K p__OF_INTEGERS "rest" = some (some (.ref f28)))
    (e__OF_INTEGERS_5 : PySem.W.nsIn K p__OF_INTEGERS "multiply decimals" = some (some (.ref f29)))
    (e__OF_INTEGERS_6 : PySem.W.nsIn K p__OF_INTEGERS "divide decimals" = some (some (.ref f30)))
    (e__OF_INTEGERS_7 : PySem.W.nsIn K p__OF_INTEGERS "join" = some none)
    (e__OF_INTEGERS_8 : PySem.W.nsIn K p__OF_INTEGERS "like" = some none)
    (e__OF_INTEGERS_9 : PySem.W.nsIn K p__OF_INTEGERS "position" = some none)
    (e__OF_INTEGERS_10 : PySem.W.nsIn K p__OF_INTEGERS "add days" = some none)
    (e__OF_INTEGERS_11 : PySem.W.nsIn K p__OF_INTEGERS "add months" = some none)
    {p__OF_TEXTS : Addr} {es__OF_TEXTS : Array DictEntry} {n__OF_TEXTS : Nat} (q__OF_TEXTS : PySem.W.nsIn K mainGlobals "_OF_TEXTS" = some (some (.ref p__OF_TEXTS))) (ka__OF_TEXTS : K.lookup p__OF_TEXTS = some ⟨.type "dict", none, .dict es__OF_TEXTS n__OF_TEXTS, #[]⟩) (kl__OF_TEXTS : PySem.W.KeysLit w.params es__OF_TEXTS.toList) (ko__OF_TEXTS : (p__OF_TEXTS == sysModules) = false)
    {u__OF_TEXTS_0 : Addr} (e__OF_TEXTS_0 : PySem.W.nsIn K p__OF_TEXTS "join" = some (some (.ref u__OF_TEXTS_0)))
    {u__OF_TEXTS_1 : Addr} (e__OF_TEXTS_1 : PySem.W.nsIn K p__OF_TEXTS "like" = some (some (.ref u__OF_TEXTS_1)))
    {u__OF_TEXTS_2 : Addr} (e__OF_TEXTS_2 : PySem.W.nsIn K p__OF_TEXTS "position" = some (some (.ref u__OF_TEXTS_2)))
    (e__OF_TEXTS_3 : PySem.W.nsIn K p__OF_TEXTS "add days" = some none)
    (e__OF_TEXTS_4 : PySem.W.nsIn K p__OF_TEXTS "add months" = some none)
    : ∃ fd : FuncData, (∀ (s : Shared) (v : Value), BindsTo s fd ⟨[v], []⟩ [("script", v)]) ∧ ∀ base : Heap, K.In base → base.Ns mainGlobals mg → FnOk P w K mg base C8.CX0 7 fa fd ["script"] (sp_law K) := by
  have D_kind_rank : Dn K mg "kind_rank" s_kind_rank ["value"] := dn_mk l0 b0 k0 (PySem.W.mg_of X G a0) (fun _ _ _ _ _ _ us hl => match us, hl with | [_], _ => rfl)
  have D_is_integer : Dn K mg "is_integer" s_is_integer ["value"] := dn_mk l1 b1 k1 (PySem.W.mg_of X G a1) (fun _ _ _ _ _ _ us hl => match us, hl with | [_], _ => rfl)
  have D_rank : Dn K mg "rank" s_rank ["value"] := dn_mk l2 b2 k2 (PySem.W.mg_of X G a2) (fun _ _ _ _ _ _ us hl => match us, hl with | [_], _ => rfl)
  have D_same : Dn K mg "same" s_same ["first", "second"] := dn_mk l3 b3 k3 (PySem.W.mg_of X G a3) (fun _ _ _ _ _ _ us hl => match us, hl with | [_, _], _ => rfl)
  have D_before : Dn K mg "before" s_before ["first", "second"] := dn_mk l4 b4 k4 (PySem.W.mg_of X G a4) (fun _ _ _ _ _ _ us hl => match us, hl with | [_, _], _ => rfl)
  have D_is_day : Dn K mg "is_day" s_is_day ["value"] := dn_mk l5 b5 k5 (PySem.W.mg_of X G a5) (fun _ _ _ _ _ _ us hl => match us, hl with | [_], _ => rfl)
  have D__is_leap : Dn K mg "_is_leap" s__is_leap ["year"] := dn_mk l6 b6 k6 (PySem.W.mg_of X G a6) (fun _ _ _ _ _ _ us hl => match us, hl with | [_], _ => rfl)
  have D_month_length : Dn K mg "month_length" s_month_length ["year", "month"] := dn_mk l7 b7 k7 (PySem.W.mg_of X G a7) (fun _ _ _ _ _ _ us hl => match us, hl with | [_, _], _ => rfl)
  have D_day_of : Dn K mg "day_of" s_day_of ["year", "month", "date"] := dn_mk l8 b8 k8 (PySem.W.mg_of X G a8) (fun _ _ _ _ _ _ us hl => match us, hl with | [_, _, _], _ => rfl)
  have D_date_of : Dn K mg "date_of" s_date_of ["day"] := dn_mk l9 b9 k9 (PySem.W.mg_of X G a9) (fun _ _ _ _ _ _ us hl => match us, hl with | [_], _ => rfl)
  have D_limited : Dn K mg "limited" s_limited ["number"] := dn_mk l10 b10 k10 (PySem.W.mg_of X G a10) (fun _ _ _ _ _ _ us hl => match us, hl with | [_], _ => rfl)
  have D_rounded : Dn K mg "rounded" s_rounded ["number", "divisor"] := dn_mk l11 b11 k11 (PySem.W.mg_of X G a11) (fun _ _ _ _ _ _ us hl => match us, hl with | [_, _], _ => rfl)
  have D_quotient : Dn K mg "quotient" s_quotient ["number", "divisor"] := dn_mk l12 b12 k12 (PySem.W.mg_of X G a12) (fun _ _ _ _ _ _ us hl => match us, hl with | [_, _], _ => rfl)
  have D_both : Dn K mg "both" s_both ["first", "second"] := dn_mk l13 b13 k13 (PySem.W.mg_of X G a13) (fun _ _ _ _ _ _ us hl => match us, hl with | [_, _], _ => rfl)
  have D_either : Dn K mg "either" s_either ["first", "second"] := dn_mk l14 b14 k14 (PySem.W.mg_of X G a14) (fun _ _ _ _ _ _ us hl => match us, hl with | [_, _], _ => rfl)
  have D__both : Dn K mg "_both" s__both ["first", "second"] := dn_mk l15 b15 k15 (PySem.W.mg_of X G a15) (fun _ _ _ _ _ _ us hl => match us, hl with | [_, _], _ => rfl)
  have D__either : Dn K mg "_either" s__either ["first", "second"] := dn_mk l16 b16 k16 (PySem.W.mg_of X G a16) (fun _ _ _ _ _ _ us hl => match us, hl with | [_, _], _ => rfl)
  have D__same : Dn K mg "_same" s__same ["first", "second"] := dn_mk l17 b17 k17 (PySem.W.mg_of X G a17) (fun _ _ _ _ _ _ us hl => match us, hl with | [_, _], _ => rfl)
  have D__first_known : Dn K mg "_first_known" s__first_known ["first", "second"] := dn_mk l18 b18 k18 (PySem.W.mg_of X G a18) (fun _ _ _ _ _ _ us hl => match us, hl with | [_, _], _ => rfl)
  have D__equal : Dn K mg "_equal" s__equal ["first", "second"] := dn_mk l19 b19 k19 (PySem.W.mg_of X G a19) (fun _ _ _ _ _ _ us hl => match us, hl with | [_, _], _ => rfl)
  have D__less : Dn K mg "_less" s__less ["first", "second"] := dn_mk l20 b20 k20 (PySem.W.mg_of X G a20) (fun _ _ _ _ _ _ us hl => match us, hl with | [_, _], _ => rfl)
  have D__at_most : Dn K mg "_at_most" s__at_most ["first", "second"] := dn_mk l21 b21 k21 (PySem.W.mg_of X G a21) (fun _ _ _ _ _ _ us hl => match us, hl with | [_, _], _ => rfl)
  have D__least : Dn K mg "_least" s__least ["first", "second"] := dn_mk l22 b22 k22 (PySem.W.mg_of X G a22) (fun _ _ _ _ _ _ us hl => match us, hl with | [_, _], _ => rfl)
  have D__greatest : Dn K mg "_greatest" s__greatest ["first", "second"] := dn_mk l23 b23 k23 (PySem.W.mg_of X G a23) (fun _ _ _ _ _ _ us hl => match us, hl with | [_, _], _ => rfl)
  have D__add : Dn K mg "_add" s__add ["first", "second"] := dn_mk l24 b24 k24 (PySem.W.mg_of X G a24) (fun _ _ _ _ _ _ us hl => match us, hl with | [_, _], _ => rfl)
  have D__subtract : Dn K mg "_subtract" s__subtract ["first", "second"] := dn_mk l25 b25 k25 (PySem.W.mg_of X G a25) (fun _ _ _ _ _ _ us hl => match us, hl with | [_, _], _ => rfl)
  have D__multiply : Dn K mg "_multiply" s__multiply ["first", "second"] := dn_mk l26 b26 k26 (PySem.W.mg_of X G a26) (fun _ _ _ _ _ _ us hl => match us, hl with | [_, _], _ => rfl)
  have D__divide : Dn K mg "_divide" s__divide ["first", "second"] := dn_mk l27 b27 k27 (PySem.W.mg_of X G a27) (fun _ _ _ _ _ _ us hl => match us, hl with | [_, _], _ => rfl)
  have D__rest : Dn K mg "_rest" s__rest ["first", "second"] := dn_mk l28 b28 k28 (PySem.W.mg_of X G a28) (fun _ _ _ _ _ _ us hl => match us, hl with | [_, _], _ => rfl)
  have D__multiply_decimals : Dn K mg "_multiply_decimals" s__multiply_decimals ["first", "second"] := dn_mk l29 b29 k29 (PySem.W.mg_of X G a29) (fun _ _ _ _ _ _ us hl => match us, hl with | [_, _], _ => rfl)
  have D__divide_decimals : Dn K mg "_divide_decimals" s__divide_decimals ["first", "second"] := dn_mk l30 b30 k30 (PySem.W.mg_of X G a30) (fun _ _ _ _ _ _ us hl => match us, hl with | [_, _], _ => rfl)
  have D__add_days : Dn K mg "_add_days" s__add_days ["day", "many"] := dn_mk l31 b31 k31 (PySem.W.mg_of X G a31) (fun _ _ _ _ _ _ us hl => match us, hl with | [_, _], _ => rfl)
  have D__add_months : Dn K mg "_add_months" s__add_months ["day", "many"] := dn_mk l32 b32 k32 (PySem.W.mg_of X G a32) (fun _ _ _ _ _ _ us hl => match us, hl with | [_, _], _ => rfl)
  have D__are_alike : Dn K mg "_are_alike" s__are_alike ["first", "second"] := dn_mk l33 b33 k33 (PySem.W.mg_of X G a33) (fun _ _ _ _ _ _ us hl => match us, hl with | [_, _], _ => rfl)
  have D_value_of_two : Dn K mg "value_of_two" s_value_of_two ["name", "first", "second"] := dn_mk l34 b34 k34 (PySem.W.mg_of X G a34) (fun _ _ _ _ _ _ us hl => match us, hl with | [_, _, _], _ => rfl)
  have D_binary : Dn K mg "binary" s_binary ["name", "first", "second"] := dn_mk l35 b35 k35 (PySem.W.mg_of X G a35) (fun _ _ _ _ _ _ us hl => match us, hl with | [_, _, _], _ => rfl)
  have D__law_numbers : Dn K mg "_law_numbers" s__law_numbers ["script", "count"] := dn_mk l36 b36 k36 (PySem.W.mg_of X G a36) (fun _ _ _ _ _ _ us hl => match us, hl with | [_, _], _ => rfl)
  have D__law_is_integer : Dn K mg "_law_is_integer" s__law_is_integer ["value"] := dn_mk l37 b37 k37 (PySem.W.mg_of X G a37) (fun _ _ _ _ _ _ us hl => match us, hl with | [_], _ => rfl)
  have D__law_rank : Dn K mg "_law_rank" s__law_rank ["value"] := dn_mk l38 b38 k38 (PySem.W.mg_of X G a38) (fun _ _ _ _ _ _ us hl => match us, hl with | [_], _ => rfl)
  have D__law_text : Dn K mg "_law_text" s__law_text ["number", "size"] := dn_mk l39 b39 k39 (PySem.W.mg_of X G a39) (fun _ _ _ _ _ _ us hl => match us, hl with | [_, _], _ => rfl)
  have D__law_value : Dn K mg "_law_value" s__law_value ["number"] := dn_mk l40 b40 k40 (PySem.W.mg_of X G a40) (fun _ _ _ _ _ _ us hl => match us, hl with | [_], _ => rfl)
  have D__law_told : Dn K mg "_law_told" s__law_told ["told", "due"] := dn_mk l41 b41 k41 (PySem.W.mg_of X G a41) (fun _ _ _ _ _ _ us hl => match us, hl with | [_, _], _ => rfl)
  have D__law_compared : Dn K mg "_law_compared" s__law_compared ["name", "first", "second"] := dn_mk l42 b42 k42 (PySem.W.mg_of X G a42) (fun _ _ _ _ _ _ us hl => match us, hl with | [_, _, _], _ => rfl)
  have D__law_reckoned : Dn K mg "_law_reckoned" s__law_reckoned ["name", "first", "second"] := dn_mk l43 b43 k43 (PySem.W.mg_of X G a43) (fun _ _ _ _ _ _ us hl => match us, hl with | [_, _, _], _ => rfl)
  have D__law_dated : Dn K mg "_law_dated" s__law_dated ["name", "day", "count"] := dn_mk l44 b44 k44 (PySem.W.mg_of X G a44) (fun _ _ _ _ _ _ us hl => match us, hl with | [_, _, _], _ => rfl)
  have D__law_due : Dn K mg "_law_due" s__law_due ["name", "first", "second"] := dn_mk l45 b45 k45 (PySem.W.mg_of X G a45) (fun _ _ _ _ _ _ us hl => match us, hl with | [_, _, _], _ => rfl)
  have y_abs : mg "abs" = none := PySem.W.mg_none_of X G z_abs
  have y_bool : mg "bool" = none := PySem.W.mg_none_of X G z_bool
  have y_divmod : mg "divmod" = none := PySem.W.mg_none_of X G z_divmod
  have y_int : mg "int" = none := PySem.W.mg_none_of X G z_int
  have y_isinstance : mg "isinstance" = none := PySem.W.mg_none_of X G z_isinstance
  have y_len : mg "len" = none := PySem.W.mg_none_of X G z_len
  have y_list : mg "list" = none := PySem.W.mg_none_of X G z_list
  have y_min : mg "min" = none := PySem.W.mg_none_of X G z_min
  have y_range : mg "range" = none := PySem.W.mg_none_of X G z_range
  have y_str : mg "str" = none := PySem.W.mg_none_of X G z_str
  have v_BINARY : ∃ u, mg "BINARY" = some u ∧ RelV (.ref p_BINARY) u := ⟨_, PySem.W.mg_of X G q_BINARY, rfl⟩
  have w_BINARY := r_BINARY
  have v_FIRST_DAY : ∃ u, mg "FIRST_DAY" = some u ∧ RelV (.int (-719162)) u := ⟨_, PySem.W.mg_of X G q_FIRST_DAY, ⟨_, rfl⟩⟩
  have v_GREATEST : ∃ u, mg "GREATEST" = some u ∧ RelV (.int (1000000000000000)) u := ⟨_, PySem.W.mg_of X G q_GREATEST, ⟨_, rfl⟩⟩
  have v_LAST_DAY : ∃ u, mg "LAST_DAY" = some u ∧ RelV (.int (2932896)) u := ⟨_, PySem.W.mg_of X G q_LAST_DAY, ⟨_, rfl⟩⟩
  have v__DAYS_OF_100_YEARS : ∃ u, mg "_DAYS_OF_100_YEARS" = some u ∧ RelV (.int (36524)) u := ⟨_, PySem.W.mg_of X G q__DAYS_OF_100_YEARS, ⟨_, rfl⟩⟩
  have v__DAYS_OF_400_YEARS : ∃ u, mg "_DAYS_OF_400_YEARS" = some u ∧ RelV (.int (146097)) u := ⟨_, PySem.W.mg_of X G q__DAYS_OF_400_YEARS, ⟨_, rfl⟩⟩
  have v__DAYS_OF_4_YEARS : ∃ u, mg "_DAYS_OF_4_YEARS" = some u ∧ RelV (.int (1461)) u := ⟨_, PySem.W.mg_of X G q__DAYS_OF_4_YEARS, ⟨_, rfl⟩⟩
  have v__DAYS_OF_YEAR : ∃ u, mg "_DAYS_OF_YEAR" = some u ∧ RelV (.int (365)) u := ⟨_, PySem.W.mg_of X G q__DAYS_OF_YEAR, ⟨_, rfl⟩⟩
  have v__LAST_YEAR : ∃ u, mg "_LAST_YEAR" = some u ∧ RelV (.int (9999)) u := ⟨_, PySem.W.mg_of X G q__LAST_YEAR, ⟨_, rfl⟩⟩
  have v__MONTHS : ∃ u, mg "_MONTHS" = some u ∧ RelV (.ref p__MONTHS) u := ⟨_, PySem.W.mg_of X G q__MONTHS, rfl⟩
  have w__MONTHS := r__MONTHS
  have v__OF_ALIKE : ∃ u, mg "_OF_ALIKE" = some u ∧ RelV (.ref p__OF_ALIKE) u := ⟨_, PySem.W.mg_of X G q__OF_ALIKE, rfl⟩
  have w__OF_ALIKE : KDict K w p__OF_ALIKE es__OF_ALIKE n__OF_ALIKE := ⟨ka__OF_ALIKE, kl__OF_ALIKE, ko__OF_ALIKE⟩
  have v__OF_ANY : ∃ u, mg "_OF_ANY" = some u ∧ RelV (.ref p__OF_ANY) u := ⟨_, PySem.W.mg_of X G q__OF_ANY, rfl⟩
  have w__OF_ANY : KDict K w p__OF_ANY es__OF_ANY n__OF_ANY := ⟨ka__OF_ANY, kl__OF_ANY, ko__OF_ANY⟩
  have v__OF_DATES : ∃ u, mg "_OF_DATES" = some u ∧ RelV (.ref p__OF_DATES) u := ⟨_, PySem.W.mg_of X G q__OF_DATES, rfl⟩
  have w__OF_DATES : KDict K w p__OF_DATES es__OF_DATES n__OF_DATES := ⟨ka__OF_DATES, kl__OF_DATES, ko__OF_DATES⟩
  have v__OF_INTEGERS : ∃ u, mg "_OF_INTEGERS" = some u ∧ RelV (.ref p__OF_INTEGERS) u := ⟨_, PySem.W.mg_of X G q__OF_INTEGERS, rfl⟩
  have w__OF_INTEGERS : KDict K w p__OF_INTEGERS es__OF_INTEGERS n__OF_INTEGERS := ⟨ka__OF_INTEGERS, kl__OF_INTEGERS, ko__OF_INTEGERS⟩
  have v__OF_TEXTS : ∃ u, mg "_OF_TEXTS" = some u ∧ RelV (.ref p__OF_TEXTS) u := ⟨_, PySem.W.mg_of X G q__OF_TEXTS, rfl⟩
  have w__OF_TEXTS : KDict K w p__OF_TEXTS es__OF_TEXTS n__OF_TEXTS := ⟨ka__OF_TEXTS, kl__OF_TEXTS, ko__OF_TEXTS⟩
  have e := hfa.symm.trans (PySem.W.mg_of X G a46)
  cases e
  have D_law := def_mk (x := "law") (st := s_law) l46 b46 k46 hfa
  refine ⟨PySem.W.fnOf "law" "law" (C8.fnArgs s_law) (C8.fnBody s_law) (C8.fnScope s_law) .none kV46 dc46 pm46 an46 cd46 ct46, fun s v => .of_eq rfl, fun base _ _ => ?_⟩
  have c_kind_rank := ok_kind_rank (P := P) (w := w) (base := base) D_kind_rank y_bool y_int y_isinstance 
  have c_is_integer := ok_is_integer (P := P) (w := w) (base := base) D_is_integer y_bool y_int y_isinstance 
  have c_rank := ok_rank (P := P) (w := w) (base := base) D_rank c_kind_rank y_int 
  have c_same := ok_same (P := P) (w := w) (base := base) D_same c_rank 
  have c_before := ok_before (P := P) (w := w) (base := base) D_before c_rank 
  have c_is_day := ok_is_day (P := P) (w := w) (base := base) D_is_day c_is_integer v_FIRST_DAY v_LAST_DAY 
  have c__is_leap := ok__is_leap (P := P) (w := w) (base := base) D__is_leap 
  have c_month_length := ok_month_length (P := P) (w := w) (base := base) D_month_length c__is_leap v__MONTHS w__MONTHS 
  have c_day_of := ok_day_of (P := P) (w := w) (base := base) D_day_of c_month_length y_range v_FIRST_DAY v__DAYS_OF_YEAR v__LAST_YEAR 
  have c_date_of := ok_date_of (P := P) (w := w) (base := base) D_date_of c_month_length y_divmod y_min v_FIRST_DAY v__DAYS_OF_100_YEARS v__DAYS_OF_400_YEARS v__DAYS_OF_4_YEARS v__DAYS_OF_YEAR 
  have c_limited := ok_limited (P := P) (w := w) (base := base) D_limited v_GREATEST 
  have c_rounded := ok_rounded (P := P) (w := w) (base := base) D_rounded y_abs 
  have c_quotient := ok_quotient (P := P) (w := w) (base := base) D_quotient y_abs 
  have c_both := ok_both (P := P) (w := w) (base := base) D_both 
  have c_either := ok_either (P := P) (w := w) (base := base) D_either 
  have c__both := ok__both (P := P) (w := w) (base := base) D__both c_both 
  have c__either := ok__either (P := P) (w := w) (base := base) D__either c_either 
  have c__same := ok__same (P := P) (w := w) (base := base) D__same c_same 
  have c__first_known := ok__first_known (P := P) (w := w) (base := base) D__first_known 
  have c__equal := ok__equal (P := P) (w := w) (base := base) D__equal c_same 
  have c__less := ok__less (P := P) (w := w) (base := base) D__less c_before 
  have c__at_most := ok__at_most (P := P) (w := w) (base := base) D__at_most c_before 
  have c__least := ok__least (P := P) (w := w) (base := base) D__least c_before 
  have c__greatest := ok__greatest (P := P) (w := w) (base := base) D__greatest c_before 
  have c__add := ok__add (P := P) (w := w) (base := base) D__add c_limited 
  have c__subtract := ok__subtract (P := P) (w := w) (base := base) D__subtract c_limited 
  have c__multiply := ok__multiply (P := P) (w := w) (base := base) D__multiply c_limited 
  have c__divide := ok__divide (P := P) (w := w) (base := base) D__divide c_limited c_quotient 
  have c__rest := ok__rest (P := P) (w := w) (base := base) D__rest c_limited c_quotient 
  have c__multiply_decimals := ok__multiply_decimals (P := P) (w := w) (base := base) D__multiply_decimals c_limited c_rounded 
  have c__divide_decimals := ok__divide_decimals (P := P) (w := w) (base := base) D__divide_decimals c_limited c_rounded 
  have c__add_days := ok__add_days (P := P) (w := w) (base := base) D__add_days c_is_day 
  have c__add_months := ok__add_months (P := P) (w := w) (base := base) D__add_months c_date_of c_day_of c_month_length y_divmod y_min 
  have c__are_alike := ok__are_alike (P := P) (w := w) (base := base) D__are_alike c_kind_rank 
  have tab : ∀ nm x y z, Sm x → Sm y → OpN nm x y z → Opr P w K mg base p__OF_ANY p__OF_ALIKE p__OF_INTEGERS p__OF_TEXTS p__OF_DATES nm x y z := by
    intro nm x y z hx hy h
    cases h with
    | oAnd => exact .any e__OF_ANY_0 (held_of c__both (PySem.W.mg_of X G a15) (by decide)) trivial
    | oOr => exact .any e__OF_ANY_1 (held_of c__either (PySem.W.mg_of X G a16) (by decide)) trivial
    | oSame => exact .any e__OF_ANY_2 (held_of c__same (PySem.W.mg_of X G a17) (by decide)) ⟨hx.ok, hy.ok⟩
    | oKnown => exact .any e__OF_ANY_3 (held_of c__first_known (PySem.W.mg_of X G a18) (by decide)) trivial
    | oEqual => exact .alike e__OF_ANY_4 e__OF_ALIKE_0 (held_of c__equal (PySem.W.mg_of X G a19) (by decide))
    | oLess => exact .alike e__OF_ANY_5 e__OF_ALIKE_1 (held_of c__less (PySem.W.mg_of X G a20) (by decide))
    | oMost => exact .alike e__OF_ANY_6 e__OF_ALIKE_2 (held_of c__at_most (PySem.W.mg_of X G a21) (by decide))
    | oLeast => exact .alike e__OF_ANY_7 e__OF_ALIKE_3 (held_of c__least (PySem.W.mg_of X G a22) (by decide))
    | oGreat => exact .alike e__OF_ANY_8 e__OF_ALIKE_4 (held_of c__greatest (PySem.W.mg_of X G a23) (by decide))
    | oAdd => exact .ofInts e__OF_ANY_9 e__OF_ALIKE_5 e__OF_INTEGERS_0 (held_of c__add (PySem.W.mg_of X G a24) (by decide))
    | oSub => exact .ofInts e__OF_ANY_10 e__OF_ALIKE_6 e__OF_INTEGERS_1 (held_of c__subtract (PySem.W.mg_of X G a25) (by decide))
    | oMul => exact .ofInts e__OF_ANY_11 e__OF_ALIKE_7 e__OF_INTEGERS_2 (held_of c__multiply (PySem.W.mg_of X G a26) (by decide))
    | oDiv => exact .ofInts e__OF_ANY_12 e__OF_ALIKE_8 e__OF_INTEGERS_3 (held_of c__divide (PySem.W.mg_of X G a27) (by decide))
    | oRest => exact .ofInts e__OF_ANY_13 e__OF_ALIKE_9 e__OF_INTEGERS_4 (held_of c__rest (PySem.W.mg_of X G a28) (by decide))
    | oMulD => exact .ofInts e__OF_ANY_14 e__OF_ALIKE_10 e__OF_INTEGERS_5 (held_of c__multiply_decimals (PySem.W.mg_of X G a29) (by decide))
    | oDivD => exact .ofInts e__OF_ANY_15 e__OF_ALIKE_11 e__OF_INTEGERS_6 (held_of c__divide_decimals (PySem.W.mg_of X G a30) (by decide))
    | oJoin _ _ hn => exact .texts e__OF_ANY_16 e__OF_ALIKE_12 e__OF_INTEGERS_7 e__OF_TEXTS_0 hn
    | oLike _ _ hn => exact .texts e__OF_ANY_17 e__OF_ALIKE_13 e__OF_INTEGERS_8 e__OF_TEXTS_1 hn
    | oPos _ _ hn => exact .texts e__OF_ANY_18 e__OF_ALIKE_14 e__OF_INTEGERS_9 e__OF_TEXTS_2 hn
    | oDays => exact .dates e__OF_ANY_19 e__OF_ALIKE_15 e__OF_INTEGERS_10 e__OF_TEXTS_3 e__OF_DATES_0 (held_of c__add_days (PySem.W.mg_of X G a31) (by decide))
    | oMonths => exact .dates e__OF_ANY_20 e__OF_ALIKE_16 e__OF_INTEGERS_11 e__OF_TEXTS_4 e__OF_DATES_1 (held_of c__add_months (PySem.W.mg_of X G a32) (by decide))
  have c_value_of_two := ok_value_of_two (P := P) (w := w) (base := base) D_value_of_two c__are_alike c_is_day c_is_integer y_isinstance y_str v__OF_ALIKE w__OF_ALIKE v__OF_ANY w__OF_ANY v__OF_DATES w__OF_DATES v__OF_INTEGERS w__OF_INTEGERS v__OF_TEXTS w__OF_TEXTS tab
  have c_binary := ok_binary (P := P) (w := w) (base := base) D_binary c_value_of_two 
  have c__law_numbers := ok__law_numbers (P := P) (w := w) (base := base) D__law_numbers y_int y_len y_range 
  have c__law_is_integer := ok__law_is_integer (P := P) (w := w) (base := base) D__law_is_integer y_bool y_int y_isinstance 
  have c__law_rank := ok__law_rank (P := P) (w := w) (base := base) D__law_rank y_isinstance y_str 
  have c__law_text := ok__law_text (P := P) (w := w) (base := base) D__law_text y_int y_range 
  have c__law_value := ok__law_value (P := P) (w := w) (base := base) D__law_value c__law_text y_int 
  have c__law_told := ok__law_told (P := P) (w := w) (base := base) D__law_told c__law_is_integer c__law_rank y_bool y_isinstance y_str 
  have c__law_compared := ok__law_compared (P := P) (w := w) (base := base) D__law_compared c__law_rank y_int 
  have c__law_reckoned := ok__law_reckoned (P := P) (w := w) (base := base) D__law_reckoned c_limited c_quotient c_rounded 
  have c__law_dated := ok__law_dated (P := P) (w := w) (base := base) D__law_dated c__law_is_integer c_date_of c_day_of c_month_length y_min 
  have c__law_due := ok__law_due (P := P) (w := w) (base := base) D__law_due c__law_compared c__law_dated c__law_is_integer c__law_reckoned c_both c_either 
  exact ok_law (P := P) (w := w) (base := base) D_law c__law_due c__law_numbers c__law_told c__law_value c_binary y_bool y_int y_isinstance y_list y_str v_BINARY w_BINARY 
end My
open PySem PySem.W PyProof.Rows
set_option maxHeartbeats 0 in
theorem PySem.Challenge.cw_stylobate_k10_operations_on_two_values_holds : PySem.Challenge.rw_stylobate_k10_operations_on_two_values.Holds := by
  w_on; o_law; k_head; (case hw => w_witness2)
  k_fill
  refine L2.walk_of (l := PySem.Challenge.rw_stylobate_k10_operations_on_two_values) (n := 63) (k := 7) (x := "script") (CX := fun _ => C8.CX0) (sp := fun w => My.sp_law _) rfl (by decide) rfl ⟨rfl, by decide, by decide⟩ (fun w h Y => PySem.W.kIn_of Y) ?F (fun _ _ a ns hl _ hS => My.sp_law_of hl hS) (fun _ _ _ _ _ h => h)
  case F =>
    intro w mg fa h KX G hmg
    refine' My.all_mk KX G hmg ?a0 ?l0 ?b0 ?k0 ?a1 ?l1 ?b1 ?k1 ?a2 ?l2 ?b2 ?k2 ?a3 ?l3 ?b3 ?k3 ?a4 ?l4 ?b4 ?k4 ?a5 ?l5 ?b5 ?k5 ?a6 ?l6 ?b6 ?k6 ?a7 ?l7 ?b7 ?k7 ?a8 ?l8 ?b8 ?k8 ?a9 ?l9 ?b9 ?k9 ?a10 ?l10 ?b10 ?k10 ?a11 ?l11 ?b11 ?k11 ?a12 ?l12 ?b12 ?k12 ?a13 ?l13 ?b13 ?k13 ?a14 ?l14 ?b14 ?k14 ?a15 ?l15 ?b15 ?k15 ?a16 ?l16 ?b16 ?k16 ?a17 ?l17 ?b17 ?k17 ?a18 ?l18 ?b18 ?k18 ?a19 ?l19 ?b19 ?k19 ?a20 ?l20 ?b20 ?k20 ?a21 ?l21 ?b21 ?k21 ?a22 ?l22 ?b22 ?k22 ?a23 ?l23 ?b23 ?k23 ?a24 ?l24 ?b24 ?k24 ?a25 ?l25 ?b25 ?k25 ?a26 ?l26 ?b26 ?k26 ?a27 ?l27 ?b27 ?k27 ?a28 ?l28 ?b28 ?k28 ?a29 ?l29 ?b29 ?k29 ?a30 ?l30 ?b30 ?k30 ?a31 ?l31 ?b31 ?k31 ?a32 ?l32 ?b32 ?k32 ?a33 ?l33 ?b33 ?k33 ?a34 ?l34 ?b34 ?k34 ?a35 ?l35 ?b35 ?k35 ?a36 ?l36 ?b36 ?k36 ?a37 ?l37 ?b37 ?k37 ?a38 ?l38 ?b38 ?k38 ?a39 ?l39 ?b39 ?k39 ?a40 ?l40 ?b40 ?k40 ?a41 ?l41 ?b41 ?k41 ?a42 ?l42 ?b42 ?k42 ?a43 ?l43 ?b43 ?k43 ?a44 ?l44 ?b44 ?k44 ?a45 ?l45 ?b45 ?k45 ?a46 ?l46 ?b46 ?k46 ?z_abs ?z_bool ?z_divmod ?z_int ?z_isinstance ?z_len ?z_list ?z_min ?z_range ?z_str ?q_BINARY ?r_BINARY ?q_FIRST_DAY ?q_GREATEST ?q_LAST_DAY ?q__DAYS_OF_100_YEARS ?q__DAYS_OF_400_YEARS ?q__DAYS_OF_4_YEARS ?q__DAYS_OF_YEAR ?q__LAST_YEAR ?q__MONTHS ?r__MONTHS ?q__OF_ALIKE ?ka__OF_ALIKE ?kl__OF_ALIKE ?ko__OF_ALIKE ?e__OF_ALIKE_0 ?e__OF_ALIKE_1 ?e__OF_ALIKE_2 ?e__OF_ALIKE_3 ?e__OF_ALIKE_4 ?e__OF_ALIKE_5 ?e__OF_ALIKE_6 ?e__OF_ALIKE_7 ?e__OF_ALIKE_8 ?e__OF_ALIKE_9 ?e__OF_ALIKE_10 ?e__OF_ALIKE_11 ?e__OF_ALIKE_12 ?e__OF_ALIKE_13 ?e__OF_ALIKE_14 ?e__OF_ALIKE_15 ?e__OF_ALIKE_16 ?q__OF_ANY ?ka__OF_ANY ?kl__OF_ANY ?ko__OF_ANY ?e__OF_ANY_0 ?e__OF_ANY_1 ?e__OF_ANY_2 ?e__OF_ANY_3 ?e__OF_ANY_4 ?e__OF_ANY_5 ?e__OF_ANY_6 ?e__OF_ANY_7 ?e__OF_ANY_8 ?e__OF_ANY_9 ?e__OF_ANY_10 ?e__OF_ANY_11 ?e__OF_ANY_12 ?e__OF_ANY_13 ?e__OF_ANY_14 ?e__OF_ANY_15 ?e__OF_ANY_16 ?e__OF_ANY_17 ?e__OF_ANY_18 ?e__OF_ANY_19 ?e__OF_ANY_20 ?q__OF_DATES ?ka__OF_DATES ?kl__OF_DATES ?ko__OF_DATES ?e__OF_DATES_0 ?e__OF_DATES_1 ?q__OF_INTEGERS ?ka__OF_INTEGERS ?kl__OF_INTEGERS ?ko__OF_INTEGERS ?e__OF_INTEGERS_0 ?e__OF_INTEGERS_1 ?e__OF_INTEGERS_2 ?e__OF_INTEGERS_3 ?e__OF_INTEGERS_4 ?e__OF_INTEGERS_5 ?e__OF_INTEGERS_6 ?e__OF_INTEGERS_7 ?e__OF_INTEGERS_8 ?e__OF_INTEGERS_9 ?e__OF_INTEGERS_10 ?e__OF_INTEGERS_11 ?q__OF_TEXTS ?ka__OF_TEXTS ?kl__OF_TEXTS ?ko__OF_TEXTS ?e__OF_TEXTS_0 ?e__OF_TEXTS_1 ?e__OF_TEXTS_2 ?e__OF_TEXTS_3 ?e__OF_TEXTS_4
    (case a0 => k_is); (case l0 => k_is); (case b0 => k_is); (case k0 => k_is); (case a1 => k_is); (case l1 => k_is); (case b1 => k_is); (case k1 => k_is); (case a2 => k_is); (case l2 => k_is); (case b2 => k_is); (case k2 => k_is); (case a3 => k_is); (case l3 => k_is); (case b3 => k_is); (case k3 => k_is); (case a4 => k_is); (case l4 => k_is); (case b4 => k_is); (case k4 => k_is); (case a5 => k_is); (case l5 => k_is); (case b5 => k_is); (case k5 => k_is); (case a6 => k_is); (case l6 => k_is); (case b6 => k_is); (case k6 => k_is); (case a7 => k_is); (case l7 => k_is); (case b7 => k_is); (case k7 => k_is); (case a8 => k_is); (case l8 => k_is); (case b8 => k_is); (case k8 => k_is); (case a9 => k_is); (case l9 => k_is); (case b9 => k_is); (case k9 => k_is); (case a10 => k_is); (case l10 => k_is); (case b10 => k_is); (case k10 => k_is); (case a11 => k_is); (case l11 => k_is); (case b11 => k_is); (case k11 => k_is); (case a12 => k_is); (case l12 => k_is); (case b12 => k_is); (case k12 => k_is); (case a13 => k_is); (case l13 => k_is); (case b13 => k_is); (case k13 => k_is); (case a14 => k_is); (case l14 => k_is); (case b14 => k_is); (case k14 => k_is); (case a15 => k_is); (case l15 => k_is); (case b15 => k_is); (case k15 => k_is); (case a16 => k_is); (case l16 => k_is); (case b16 => k_is); (case k16 => k_is); (case a17 => k_is); (case l17 => k_is); (case b17 => k_is); (case k17 => k_is); (case a18 => k_is); (case l18 => k_is); (case b18 => k_is); (case k18 => k_is); (case a19 => k_is); (case l19 => k_is); (case b19 => k_is); (case k19 => k_is); (case a20 => k_is); (case l20 => k_is); (case b20 => k_is); (case k20 => k_is); (case a21 => k_is); (case l21 => k_is); (case b21 => k_is); (case k21 => k_is); (case a22 => k_is); (case l22 => k_is); (case b22 => k_is); (case k22 => k_is); (case a23 => k_is); (case l23 => k_is); (case b23 => k_is); (case k23 => k_is); (case a24 => k_is); (case l24 => k_is); (case b24 => k_is); (case k24 => k_is); (case a25 => k_is); (case l25 => k_is); (case b25 => k_is); (case k25 => k_is); (case a26 => k_is); (case l26 => k_is); (case b26 => k_is); (case k26 => k_is); (case a27 => k_is); (case l27 => k_is); (case b27 => k_is); (case k27 => k_is); (case a28 => k_is); (case l28 => k_is); (case b28 => k_is); (case k28 => k_is); (case a29 => k_is); (case l29 => k_is); (case b29 => k_is); (case k29 => k_is); (case a30 => k_is); (case l30 => k_is); (case b30 => k_is); (case k30 => k_is); (case a31 => k_is); (case l31 => k_is); (case b31 => k_is); (case k31 => k_is); (case a32 => k_is); (case l32 => k_is); (case b32 => k_is); (case k32 => k_is); (case a33 => k_is); (case l33 => k_is); (case b33 => k_is); (case k33 => k_is); (case a34 => k_is); (case l34 => k_is); (case b34 => k_is); (case k34 => k_is); (case a35 => k_is); (case l35 => k_is); (case b35 => k_is); (case k35 => k_is); (case a36 => k_is); (case l36 => k_is); (case b36 => k_is); (case k36 => k_is); (case a37 => k_is); (case l37 => k_is); (case b37 => k_is); (case k37 => k_is); (case a38 => k_is); (case l38 => k_is); (case b38 => k_is); (case k38 => k_is); (case a39 => k_is); (case l39 => k_is); (case b39 => k_is); (case k39 => k_is); (case a40 => k_is); (case l40 => k_is); (case b40 => k_is); (case k40 => k_is); (case a41 => k_is); (case l41 => k_is); (case b41 => k_is); (case k41 => k_is); (case a42 => k_is); (case l42 => k_is); (case b42 => k_is); (case k42 => k_is); (case a43 => k_is); (case l43 => k_is); (case b43 => k_is); (case k43 => k_is); (case a44 => k_is); (case l44 => k_is); (case b44 => k_is); (case k44 => k_is); (case a45 => k_is); (case l45 => k_is); (case b45 => k_is); (case k45 => k_is); (case a46 => k_is); (case l46 => k_is); (case b46 => k_is); (case k46 => k_is); (case z_abs => k_is); (case z_bool => k_is); (case z_divmod => k_is); (case z_int => k_is); (case z_isinstance => k_is); (case z_len => k_is); (case z_list => k_is); (case z_min => k_is); (case z_range => k_is); (case z_str => k_is); (case q_BINARY => k_is); (case q_FIRST_DAY => k_is); (case q_GREATEST => k_is); (case q_LAST_DAY => k_is); (case q__DAYS_OF_100_YEARS => k_is); (case q__DAYS_OF_400_YEARS => k_is); (case q__DAYS_OF_4_YEARS => k_is); (case q__DAYS_OF_YEAR => k_is); (case q__LAST_YEAR => k_is); (case q__MONTHS => k_is); (case q__OF_ALIKE => k_is); (case ka__OF_ALIKE => k_is); (case e__OF_ALIKE_0 => k_is); (case e__OF_ALIKE_1 => k_is); (case e__OF_ALIKE_2 => k_is); (case e__OF_ALIKE_3 => k_is); (case e__OF_ALIKE_4 => k_is); (case e__OF_ALIKE_5 => k_is); (case e__OF_ALIKE_6 => k_is); (case e__OF_ALIKE_7 => k_is); (case e__OF_ALIKE_8 => k_is); (case e__OF_ALIKE_9 => k_is); (case e__OF_ALIKE_10 => k_is); (case e__OF_ALIKE_11 => k_is); (case e__OF_ALIKE_12 => k_is); (case e__OF_ALIKE_13 => k_is); (case e__OF_ALIKE_14 => k_is); (case e__OF_ALIKE_15 => k_is); (case e__OF_ALIKE_16 => k_is); (case q__OF_ANY => k_is); (case ka__OF_ANY => k_is); (case e__OF_ANY_0 => k_is); (case e__OF_ANY_1 => k_is); (case e__OF_ANY_2 => k_is); (case e__OF_ANY_3 => k_is); (case e__OF_ANY_4 => k_is); (case e__OF_ANY_5 => k_is); (case e__OF_ANY_6 => k_is); (case e__OF_ANY_7 => k_is); (case e__OF_ANY_8 => k_is); (case e__OF_ANY_9 => k_is); (case e__OF_ANY_10 => k_is); (case e__OF_ANY_11 => k_is); (case e__OF_ANY_12 => k_is); (case e__OF_ANY_13 => k_is); (case e__OF_ANY_14 => k_is); (case e__OF_ANY_15 => k_is); (case e__OF_ANY_16 => k_is); (case e__OF_ANY_17 => k_is); (case e__OF_ANY_18 => k_is); (case e__OF_ANY_19 => k_is); (case e__OF_ANY_20 => k_is); (case q__OF_DATES => k_is); (case ka__OF_DATES => k_is); (case e__OF_DATES_0 => k_is); (case e__OF_DATES_1 => k_is); (case q__OF_INTEGERS => k_is); (case ka__OF_INTEGERS => k_is); (case e__OF_INTEGERS_0 => k_is); (case e__OF_INTEGERS_1 => k_is); (case e__OF_INTEGERS_2 => k_is); (case e__OF_INTEGERS_3 => k_is); (case e__OF_INTEGERS_4 => k_is); (case e__OF_INTEGERS_5 => k_is); (case e__OF_INTEGERS_6 => k_is); (case e__OF_INTEGERS_7 => k_is); (case e__OF_INTEGERS_8 => k_is); (case e__OF_INTEGERS_9 => k_is); (case e__OF_INTEGERS_10 => k_is); (case e__OF_INTEGERS_11 => k_is); (case q__OF_TEXTS => k_is); (case ka__OF_TEXTS => k_is); (case e__OF_TEXTS_0 => k_is); (case e__OF_TEXTS_1 => k_is); (case e__OF_TEXTS_2 => k_is); (case e__OF_TEXTS_3 => k_is); (case e__OF_TEXTS_4 => k_is)
    (case r_BINARY => exact fun _ => .inr ⟨_, _, _, (by k_is), rfl, rfl, by decide, by repeat (first | exact .nil | refine .cons ⟨_, rfl⟩ ?_)⟩)
    (case r__MONTHS => exact fun _ => .inr ⟨_, _, _, (by k_is), rfl, rfl, by decide, by repeat (first | exact .nil | refine .cons ⟨_, rfl⟩ ?_)⟩)
    (case kl__OF_ALIKE => k_keys)
    (case ko__OF_ALIKE => decide)
    (case kl__OF_ANY => k_keys)
    (case ko__OF_ANY => decide)
    (case kl__OF_DATES => k_keys)
    (case ko__OF_DATES => decide)
    (case kl__OF_INTEGERS => k_keys)
    (case ko__OF_INTEGERS => decide)
    (case kl__OF_TEXTS => k_keys)
    (case ko__OF_TEXTS => decide)


