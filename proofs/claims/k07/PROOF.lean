import PyProof.Rows.All
import Wide.All
import OpenK.AllK
import Wide.FinOn
import HandS.ForMost
import HandS.Codes
import HandS.Evl
import HandS.IsInst
import HandS.Wide
import HandS.Dict
import HandS.Iter
import HandS.Text
import HandS.TupLe
import HandS.SortKw
import PySem.Challenge.RW_stylobate_k07_patterns
set_option Elab.async false
set_option linter.all false
set_option maxRecDepth 100000
set_option maxHeartbeats 4000000
namespace My
open PySem PySem.Spec PyProof.Rows L2 Evl
/-! ### defs of the text, promises, the end -/
def Dn (K : PySem.W.Frag) (mg : Str → Option Value) (x : Str) (st : Stmt) (ps : List Str) : Prop := ∃ f fd, C8.Def K mg x st f fd ∧ Binds K fd ps []
section
variable {P : Program} {w : World} {K : PySem.W.Frag} {mg : Str → Option Value} {base : Heap}
theorem cal_of {x : Str} {st : Stmt} {N ps : List Str} {k : Nat} {sp : Sp} (D : Dn K mg x st ps) (S : FnScope N ps (C8.fnScope st)) (len : ∀ vs H Q E, sp vs H Q E → vs.length = ps.length)
    (hbody : ∀ (f : Addr) (cdv : Value) (A : Around) (outer : List Env) (s : Shared) (H : Hp) (vs : List V) (Q : VK) (E : XK), Room k (A.deeper (envOfC x (C8.fnScope st) s.heap.objs.size f cdv)) → sp vs H Q E →
      ∃ t, PSs (cxOf C8.CX0 P w K mg base N x (C8.fnScope st) f cdv A outer s H E).nox (C8.fnBody st) t ∧ t { nx := fun _ H' => Q .non H', rt := Q } (start N vs) H) : C8.Cal P w K mg base (k + 1) x sp [] := by
  obtain ⟨f, fd, F, b⟩ := D
  exact C8.cal0 F b .nil S len (hbody f)
theorem def_mk {x : Str} {st : Stmt} {f : Addr} {oc : Value} {od an : Option Addr} {osl : Array (Option Value)} {kV doc pm cdv ct : Value}
    (l : K.lookup f = some ⟨oc, od, .func (PySem.W.fnOf x x (C8.fnArgs st) (C8.fnBody st) (C8.fnScope st) .none kV doc pm an cdv ct), osl⟩)
    (c : PySem.W.codeIn K cdv x = true) (k : PySem.W.keepIn K (.ref f) = true) (m : mg x = some (.ref f)) : C8.Def K mg x st f (PySem.W.fnOf x x (C8.fnArgs st) (C8.fnBody st) (C8.fnScope st) .none kV doc pm an cdv ct) :=
  ⟨⟨oc, od, .none, kV, doc, pm, an, cdv, ct, osl, rfl, l, c⟩, m, k⟩
theorem dn_mk {x : Str} {st : Stmt} {f : Addr} {oc : Value} {od an : Option Addr} {osl : Array (Option Value)} {kV doc pm cdv ct : Value} {ps : List Str}
    (l : K.lookup f = some ⟨oc, od, .func (PySem.W.fnOf x x (C8.fnArgs st) (C8.fnBody st) (C8.fnScope st) .none kV doc pm an cdv ct), osl⟩)
    (c : PySem.W.codeIn K cdv x = true) (k : PySem.W.keepIn K (.ref f) = true) (m : mg x = some (.ref f))
    (h : ∀ (kV doc pm : Value) (an : Option Addr) (cdv ct : Value) (us : List Value), us.length = ps.length → bindArgs (PySem.W.fnOf x x (C8.fnArgs st) (C8.fnBody st) (C8.fnScope st) .none kV doc pm an cdv ct) ⟨us, []⟩ = pure (ps.zip us)) : Dn K mg x st ps :=
  ⟨f, _, def_mk l c k m, C8.Fun.binds (def_mk l c k m).fn rfl h⟩
end
/-! ### x is True, x is False, of any value -/
def rIsT : R2 := fun x y H Q => ∃ b : Bool, y = .bl b ∧ Q (.bl (decide (x = .bl b))) H
def rNotT : R2 := fun x y H Q => ∃ b : Bool, y = .bl b ∧ Q (.bl (!decide (x = .bl b))) H
section
variable {X : Cx}
theorem rel_bl {x : V} {v : Value} {b : Bool} (rx : RelV x v) : PySem.plainIs v (.bool b) = true ∧ (v == .bool b) = decide (x = .bl b) ∨ ∃ n, v = .builtin n := by
  cases x with
  | non => cases (show v = Value.none from rx); exact .inl ⟨rfl, rfl⟩
  | bl c => cases (show v = Value.bool c from rx); exact .inl ⟨rfl, by cases b <;> cases c <;> rfl⟩
  | int i => obtain ⟨t, e⟩ := (show ∃ t, v = Value.int i t from rx); cases e; exact .inl ⟨rfl, rfl⟩
  | str i => obtain ⟨t, e⟩ := (show ∃ t, v = Value.str i t from rx); cases e; exact .inl ⟨rfl, rfl⟩
  | byt i => obtain ⟨t, e⟩ := (show ∃ t, v = Value.bytes i t from rx); cases e; exact .inl ⟨rfl, rfl⟩
  | flt i => obtain ⟨t, e⟩ := (show ∃ t, v = Value.float i t from rx); cases e; exact .inl ⟨rfl, rfl⟩
  | ref a => cases (show v = Value.ref a from rx); exact .inl ⟨rfl, rfl⟩
  | ty n => cases (show v = Value.type n from rx); exact .inl ⟨rfl, rfl⟩
theorem rel_bl' {x : V} {v : Value} {b : Bool} (rx : RelV x v) : PySem.plainIs v (.bool b) = true ∧ (v == .bool b) = decide (x = .bl b) := by
  rcases rel_bl (b := b) rx with h | ⟨n, rfl⟩
  · exact h
  · cases x <;> first | exact nomatch (rx : Value.builtin n = _) | (obtain ⟨t, e⟩ := rx; exact nomatch e)
theorem op_isTF : OpR X (compareOp .Is) rIsT := by
  intro pins s σ H x y v u Q I rx ry h
  obtain ⟨b, rfl, q⟩ := h
  cases (show u = Value.bool b from ry)
  obtain ⟨h1, h2⟩ := rel_bl' (b := b) rx
  exact wpAny_is_plain h1 ⟨.bl _, H, I, rfl, by rw [h2]; exact q⟩
theorem op_notTF : OpR X (compareOp .IsNot) rNotT := by
  intro pins s σ H x y v u Q I rx ry h
  obtain ⟨b, rfl, q⟩ := h
  cases (show u = Value.bool b from ry)
  obtain ⟨h1, h2⟩ := rel_bl' (b := b) rx
  exact wpAny_isNot_plain h1 ⟨.bl _, H, I, rfl, by rw [h2]; exact q⟩
end
/-! ### what evaluates to what: further -/
section
variable {K : PySem.W.Frag} {σ : L2.St} {H H' : Hp} {ta tb te tx : TE} {t u : TT} {x y z v : V} {r : R2}
theorem rv_isT {b : Bool} : RV rIsT x (.bl b) H (.bl (decide (x = .bl b))) := fun H1 _ _ q => ⟨b, rfl, q H1 (Ex.refl H1)⟩
theorem rv_notT {b : Bool} : RV rNotT x (.bl b) H (.bl (!decide (x = .bl b))) := fun H1 _ _ q => ⟨b, rfl, q H1 (Ex.refl H1)⟩
theorem rv_isN : RV (fun x y H Q => y = .non ∧ Q (.bl (decide (x = .non))) H) x .non H (.bl (decide (x = .non))) := fun H1 _ _ q => ⟨rfl, q H1 (Ex.refl H1)⟩
theorem rv_notN : RV (fun x y H Q => y = .non ∧ Q (.bl (!decide (x = .non))) H) x .non H (.bl (!decide (x = .non))) := fun H1 _ _ q => ⟨rfl, q H1 (Ex.refl H1)⟩
theorem ev_int {i : Int} (h : Ev ta σ H (.int i)) : Ev (tCB (fun xs H Q => (∃ i, xs = [.int i] ∧ Q (.int i) H) ∨ ∃ k, xs = [.bl k] ∧ Q (.int (if k then 1 else 0)) H) (tCons ta tNil)) σ H (.int i) :=
  fun H1 e Q q => h H1 e _ fun H2 e2 => .inl ⟨i, rfl, q H2 e2⟩
theorem ev_intB {b : Bool} (h : Ev ta σ H (.bl b)) : Ev (tCB (fun xs H Q => (∃ i, xs = [.int i] ∧ Q (.int i) H) ∨ ∃ k, xs = [.bl k] ∧ Q (.int (if k then 1 else 0)) H) (tCons ta tNil)) σ H (.int (if b then 1 else 0)) :=
  fun H1 e Q q => h H1 e _ fun H2 e2 => .inr ⟨b, rfl, q H2 e2⟩
theorem ev_abs {i : Int} (h : Ev ta σ H (.int i)) : Ev (tCB (fun xs H Q => ∃ i, xs = [.int i] ∧ Q (.int (if i < 0 then -i else i)) H) (tCons ta tNil)) σ H (.int (if i < 0 then -i else i)) :=
  fun H1 e Q q => h H1 e _ fun H2 e2 => ⟨i, rfl, q H2 e2⟩
theorem ev_min2 {i j : Int} (ha : Ev ta σ H (.int i)) (hb : Ev tb σ H (.int j)) : Ev (tCB (fun xs H Q => ∃ i j, xs = [.int i, .int j] ∧ Q (.int (if j < i then j else i)) H) (tCons ta (tCons tb tNil))) σ H (.int (if j < i then j else i)) := fun H1 e Q q =>
  ha H1 e _ fun H2 e2 => hb H2 (e.trans e2) _ fun H3 e3 => ⟨i, j, rfl, q H3 (e2.trans e3)⟩
theorem ev_lenS {s : Str} (h : Ev ta σ H (.str s)) (hz : s.length ≤ 100000) : Ev (tCB (fun xs H Q => ∃ z, xs = [.str z] ∧ z.length ≤ sizeLine ∧ Q (.int z.length) H) (tCons ta tNil)) σ H (.int s.length) :=
  fun H1 e Q q => h H1 e _ fun H2 e2 => ⟨s, rfl, sz_of hz, q H2 e2⟩
/-- isinstance(x, T) of a plain value -/
def tyOf : V → String
  | .non => "NoneType"
  | .bl _ => "bool"
  | .int _ => "int"
  | .str _ => "str"
  | .byt _ => "bytes"
  | .flt _ => "float"
  | _ => "?"
def isTy (x : V) (T : String) : Bool := ((kitB (tyOf x) T).getD false)
theorem ev_isi {T : String} {tn : String} {b : Bool} (ha : Ev ta σ H x) (ht : ∀ H1, TyX K H1 x (.type tn)) (hk : kitB tn T = some b) : Ev (tCB (rIsi K) (tCons ta (tCons (tC (.ty T)) tNil))) σ H (.bl b) :=
  fun H1 e Q q => ha H1 e _ fun H2 e2 => ⟨x, .ty T, .type tn, .type T, b, rfl, .ty T, ht H2, kit_ty hk, q H2 e2⟩
theorem tx_int (i : Int) (H1 : Hp) : TyX K H1 (.int i) (.type "int") := .base (.int i)
theorem tx_bl (i : Bool) (H1 : Hp) : TyX K H1 (.bl i) (.type "bool") := .base (.bl i)
theorem tx_str (i : Str) (H1 : Hp) : TyX K H1 (.str i) (.type "str") := .base (.str i)
theorem tx_non (H1 : Hp) : TyX K H1 .non (.type "NoneType") := .base .non
section
variable {D : Ends} {tz : TS}
/-- if c: x = e, an int: told by the value x has behind it -/
theorem q_ifI {b : Bool} {i : Nat} {p q : Int} (h : EvT t σ H b) (h1 : b = true → Ev te σ H (.int p)) (h0 : σ[i]? = some (some (.int q))) (k : ∀ H1, Ex H H1 → tz D (σ.set i (some (.int (if b = true then p else q)))) H1) : tSeq (tIfS t (tAsg te (gName i)) tNext) tz D σ H := by
  refine q_ifAsg h (fun hb => ?_) (fun hb => ?_) k
  · rw [if_pos hb]
    exact h1 hb
  · rw [hb]
    show σ.set i (some (V.int q)) = σ
    apply List.ext_getElem?
    intro j
    rw [List.getElem?_set]
    split
    · rename_i e
      subst e
      rw [h0]
      have := (List.getElem?_eq_some_iff.mp h0).1
      rw [if_pos this]
    · rfl
end
/-- a promise of one value, all else as it was -/
theorem spv {sp : Sp} {vs : List V} (h : ∀ H1, Ex H H1 → ∀ Q : VK, (∀ H2, Ex H1 H2 → Q z H2) → ∀ E : XK, sp vs H1 Q E) : SpV sp vs H z := h
end
local macro_rules | `(tactic| walk_at "side") => `(tactic| first
  | exact .inr ⟨by decide, by decide⟩
  | exact .inl ⟨by decide, by decide⟩
  | exact .inl ⟨by omega, by omega⟩
  | exact .inr ⟨by omega, by omega⟩
  | exact ⟨by decide, by decide⟩
  | exact ⟨by omega, by omega⟩
  | decide
  | (show (_ : Int) < _; omega)
  | omega)
local macro_rules | `(tactic| walk_at "rv") => `(tactic| first
  | exact rv_I0
  | ((refine' rv_I ?k1); (case k1 => walk_at "side"))
  | exact rv_isT
  | exact rv_notT
  | exact rv_isN
  | exact rv_notN
  | exact rv_eq rfl
  | exact rv_ne rfl)
local macro_rules | `(tactic| walk_at "sq") => `(tactic| first | assumption | exact ex_l (by assumption) (by assumption) | exact sq_of (by assumption))
/-- what a part gives, read off its form -/
local macro_rules | `(tactic| walk_at "ev") => `(tactic| first
  | exact ev_var rfl
  | exact ev_c
  | ((with_reducible refine' ev_op ?k1 ?k2 ?k3); (case k1 => walk_at "ev"); (case k2 => walk_at "ev"); (case k3 => walk_at "rv"))
  | ((with_reducible refine' ev_un ?k1 ?k2); (case k1 => walk_at "ev"); (case k2 => exact ru_neg))
  | ((with_reducible refine' ev_int ?k1); (case k1 => walk_at "ev"))
  | ((with_reducible refine' ev_abs ?k1); (case k1 => walk_at "ev"))
  | ((with_reducible refine' ev_andV ?k1 ?k2); (case k1 => walk_at "ev"); (case k2 => intro _; walk_at "ev"))
  | ((with_reducible refine' ev_orV ?k1 ?k2); (case k1 => walk_at "ev"); (case k2 => intro _; walk_at "ev"))
  | ((with_reducible refine' ev_notV ?k1); (case k1 => walk_at "ev"))
  | ((refine' ev_len ?k1 ?k2); (case k1 => walk_at "ev"); (case k2 => walk_at "sq")))
local macro_rules | `(tactic| walk_at "et") => `(tactic| first
  | ((with_reducible refine' et_or ?k1 ?k2); (case k1 => walk_at "et"); (case k2 => intro _; walk_at "et"))
  | ((with_reducible refine' et_and ?k1 ?k2); (case k1 => walk_at "et"); (case k2 => intro _; walk_at "et"))
  | ((with_reducible refine' et_not ?k1); (case k1 => walk_at "et"))
  | (refine' et_test ?k1; (case k1 => walk_at "ev"))
  | (refine' et_B ?k1; (case k1 => walk_at "ev")))

/-! ### tuples made, tuples read, data compared -/
def SpU (sp : Sp) (vs : List V) (H : Hp) (xs : List V) : Prop := ∀ H1, Ex H H1 → ∀ Q : VK, (∀ p H2, H1 p = none → Ex H1 H2 → H2 p = some (.tup xs) → Q (.ref p) H2) → ∀ E : XK, sp vs H1 Q E
section
variable {K : PySem.W.Frag} {σ : L2.St} {H H' : Hp} {ta tb te : TE} {x y z v : V}
theorem eu_call {sp : Sp} {dvs vs xs : List V} {E : XK} {ta : TA} (h : EvA ta σ H vs) (hs : SpU sp (vs ++ dvs) H xs) : EvU (tCall sp dvs E ta) σ H xs := fun H1 e Q q =>
  h H1 e _ fun H2 e2 => hs H2 (e.trans e2) Q (fun p H3 hp e3 h3 => q p H3 (fresh_back e2 hp) (e2.trans e3) h3) E
theorem ev_lenT {p : Addr} {xs : List V} (ha : Ev ta σ H (.ref p)) (h : SqT K H p xs) : Ev (tCB (fun xs H Q => ∃ p ys, xs = [.ref p] ∧ (SqL K H p ys ∨ SqT K H p ys) ∧ Q (.int ys.length) H) (tCons ta tNil)) σ H (.int (xs.length : Int)) := fun H1 e Q q =>
  ha H1 e _ fun H2 e2 => ⟨p, xs, rfl, Or.inr (ex_t (e.trans e2) h), q H2 e2⟩
theorem eu_divmod {i j : Int} (ha : Ev ta σ H (.int i)) (hb : Ev tb σ H (.int j)) (hc : CDiv i j) :
    EvU (tCB (fun xs H Q => ∃ i j, xs = [.int i, .int j] ∧ CDiv i j ∧ ∀ p, H p = none → Q (.ref p) (upd H p (.tup [.int (i / j), .int (i % j)]))) (tCons ta (tCons tb tNil))) σ H [.int (i / j), .int (i % j)] := fun H1 e Q q =>
  ha H1 e _ fun H2 e2 => hb H2 (e.trans e2) _ fun H3 e3 => ⟨i, j, rfl, hc, fun p hp => q p _ (fresh_back (e2.trans e3) hp) ((e2.trans e3).trans (Ex.new hp)) upd_same⟩
theorem dp_ints : ∀ ns : List Int, DpAll K H (ns.map V.int) (ns.map PyData.int)
  | [] => .nil
  | n :: r => .cons (.int n) (dp_ints r)
theorem eqv_ints : ∀ ns ms : List Int, PyData.eqv (.tuple (ns.map PyData.int)) (.tuple (ms.map PyData.int)) = decide (ns = ms)
  | [], [] => rfl
  | [], _ :: _ => rfl
  | _ :: _, [] => rfl
  | n :: r, m :: t => by
    have ih := eqv_ints r t
    show ((n == m) && PyData.eqv (.tuple (r.map PyData.int)) (.tuple (t.map PyData.int))) = _
    rw [ih, Bool.eq_iff_iff, Bool.and_eq_true, decide_eq_true_eq, decide_eq_true_eq, beq_iff_eq, List.cons.injEq]
theorem dp_tup {p : Addr} {ns : List Int} (h : SqT K H p (ns.map V.int)) : Dp K H (.ref p) (.tuple (ns.map PyData.int)) := .tup h (dp_ints ns)
def shI (n : Nat) : Bool := SeqAt.shaped (.tuple ((List.replicate n 0).map PyData.int))
theorem rv_neT {p q : Addr} {ns ms : List Int} (hp : SqT K H p (ns.map V.int)) (hq : SqT K H q (ms.map V.int)) (s1 : SeqAt.shaped (.tuple (ns.map PyData.int)) = true) (s2 : SeqAt.shaped (.tuple (ms.map PyData.int)) = true) : RV (rNeD K) (.ref p) (.ref q) H (.bl (!decide (ns = ms))) := fun H1 e Q k =>
  ⟨_, _, dp_tup (ex_t e hp), dp_tup (ex_t e hq), s1, s2, by rw [eqv_ints]; exact k H1 (Ex.refl H1)⟩
theorem tx_tup {a : Addr} {xs : List V} (h : H a = some (.tup xs)) : ∀ H1, Ex H H1 → TyX K H1 (.ref a) (.type "tuple") := fun H1 e => .base (.tup (e _ _ h))
theorem ev_isi' {T : String} {tn : String} {b : Bool} (ha : Ev ta σ H x) (ht : ∀ H1, Ex H H1 → TyX K H1 x (.type tn)) (hk : kitB tn T = some b) : Ev (tCB (rIsi K) (tCons ta (tCons (tC (.ty T)) tNil))) σ H (.bl b) :=
  fun H1 e Q q => ha H1 e _ fun H2 e2 => ⟨x, .ty T, .type tn, .type T, b, rfl, .ty T, ht H2 (e.trans e2), kit_ty hk, q H2 e2⟩
theorem ev_chain {r r' : R2} {tc : TE} {b c : Bool} (ha : Ev ta σ H x) (hb : Ev tb σ H y) (hr : RV r x y H (.bl b)) (hc : b = true → Ev tc σ H z) (hr' : b = true → RV r' y z H (.bl c)) : Ev (tChain r r' ta tb tc) σ H (.bl (b && c)) := fun H1 e Q q =>
  ha H1 e _ fun H2 e2 => hb H2 (e.trans e2) _ fun H3 e3 => hr H3 ((e.trans e2).trans e3) _ fun H4 e4 => ⟨b, rfl, by
    cases b with
    | true =>
      show tc σ H4 fun w' H5 => r' y w' H5 Q
      exact hc rfl H4 (((e.trans e2).trans e3).trans e4) _ fun H5 e5 => hr' rfl H5 ((((e.trans e2).trans e3).trans e4).trans e5) Q fun H6 e6 => q H6 ((((e2.trans e3).trans e4).trans e5).trans e6)
    | false =>
      show Q (.bl false) H4
      exact q H4 ((e2.trans e3).trans e4)⟩
/-- a, b = (..): a new tuple unpacked into names -/
theorem gt2 {p : Addr} {i j : Nat} (h : SqT K H p [x, y]) {Q : L2.St → Hp → Prop} (k : Q ((σ.set i (some x)).set j (some y)) H) : gTup K 2 (gCons (gName i) (gCons (gName j) gNil)) (.ref p) σ H Q :=
  ⟨p, [x, y], rfl, h, rfl, x, [y], rfl, y, [], rfl, rfl, k⟩
theorem gt3 {p : Addr} {i j l : Nat} (h : SqT K H p [x, y, z]) {Q : L2.St → Hp → Prop} (k : Q (((σ.set i (some x)).set j (some y)).set l (some z)) H) : gTup K 3 (gCons (gName i) (gCons (gName j) (gCons (gName l) gNil))) (.ref p) σ H Q :=
  ⟨p, [x, y, z], rfl, h, rfl, x, [y, z], rfl, y, [z], rfl, z, [], rfl, rfl, k⟩
end
theorem hu64 {A : Around} {k : Nat} (hr : Room k A) : A.units + 64 < cLine := by
  have := hr.un
  omega
section
variable {K : PySem.W.Frag} {σ : L2.St} {H : Hp} {te : TE} {D : Ends} {tz : TS} {g : TG} {xs : List V}
theorem q_asgG (h : EvU te σ H xs) (k : ∀ p H1, H p = none → Ex H H1 → H1 p = some (.tup xs) → g (.ref p) σ H1 (tz D)) : tSeq (tAsg te g) tz D σ H := h H (Ex.refl H) _ fun p H1 hp e h1 => k p H1 hp e h1
theorem q_asgV {v : V} (h : Ev te σ H v) (k : ∀ H1, Ex H H1 → g v σ H1 (tz D)) : tSeq (tAsg te g) tz D σ H := h H (Ex.refl H) _ fun H1 e => k H1 e
end
/-! ### plain values and their types -/
inductive Pl : V → Prop where
  | non : Pl .non
  | bl (b : Bool) : Pl (.bl b)
  | int (i : Int) : Pl (.int i)
  | str (s : Str) : Pl (.str s)
def tyN : V → String
  | .bl _ => "bool"
  | .int _ => "int"
  | .str _ => "str"
  | _ => "NoneType"
def isInt : V → Bool
  | .int _ => true
  | _ => false
theorem tx_pl {K : PySem.W.Frag} {x : V} (h : Pl x) (H1 : Hp) : TyX K H1 x (.type (tyN x)) := by
  cases h with
  | non => exact .base .non
  | bl b => exact .base (.bl b)
  | int i => exact .base (.int i)
  | str s => exact .base (.str s)
theorem ev_isiP {K : PySem.W.Frag} {σ : L2.St} {H : Hp} {ta : TE} {x : V} {T : String} {b : Bool} (ha : Ev ta σ H x) (hx : Pl x) (hk : kitB (tyN x) T = some b) : Ev (tCB (rIsi K) (tCons ta (tCons (tC (.ty T)) tNil))) σ H (.bl b) :=
  ev_isi ha (tx_pl hx) hk
/-- isinstance(x, int) and not isinstance(x, bool) -/
theorem ev_isInt {K : PySem.W.Frag} {σ : L2.St} {H : Hp} {ta tb : TE} {x : V} (ha : Ev ta σ H x) (hb : Ev tb σ H x) (hx : Pl x) :
    Ev (tAndV (tCB (rIsi K) (tCons ta (tCons (tC (.ty "int")) tNil))) (tNotV (tCB (rIsi K) (tCons tb (tCons (tC (.ty "bool")) tNil))))) σ H (.bl (isInt x)) := by
  cases hx with
  | non => exact ev_is (ev_andV (ev_isiP (b := false) ha .non (by decide +kernel)) fun z => nomatch z) (show V.bl (false && true) = _ from rfl)
  | bl b => exact ev_is (ev_andV (ev_isiP (b := true) ha (.bl b) (by show kitB "bool" "int" = some true; decide +kernel)) fun _ => ev_notV (ev_isiP (b := true) hb (.bl b) (by show kitB "bool" "bool" = some true; decide +kernel))) rfl
  | int i => exact ev_is (ev_andV (ev_isiP (b := true) ha (.int i) (by show kitB "int" "int" = some true; decide +kernel)) fun _ => ev_notV (ev_isiP (b := false) hb (.int i) (by show kitB "int" "bool" = some false; decide +kernel))) rfl
  | str s => exact ev_is (ev_andV (ev_isiP (b := false) ha (.str s) (by show kitB "str" "int" = some false; decide +kernel)) fun z => nomatch z) (show V.bl (false && true) = _ from rfl)

/-! ### lists made by a comprehension over a range, lists joined -/
theorem ix_listK {X : Cx} {K : PySem.W.Frag} (h : X.K = K) : IxR X (rIxL K) := h ▸ ix_list
theorem ix_tupK {X : Cx} {K : PySem.W.Frag} (h : X.K = K) : IxR X (rIxT K) := h ▸ ix_tup
section
variable {K : PySem.W.Frag} {σ : L2.St} {H : Hp} {ta tb te : TE} {x y z v : V}
theorem el_lcR2 {tr : TA} {j : Nat} {vs : List Nat} {lo n : Int} (f : Nat → V) (h : EvA tr σ H [.int lo, .int n]) (hb : 0 ≤ lo ∧ lo ≤ n ∧ n ≤ 40000) (hw : ∀ x, wipe ((wipe σ vs).set j (some x)) vs = wipe σ vs)
    (he : ∀ (i : Nat) H1, Ex H H1 → lo + (i : Int) < n → Ev te ((wipe σ vs).set j (some (.int (lo + (i : Int))))) H1 (f i)) : EvL (tLc (iRng2 tr) (gName j) tYes te vs) σ H ((List.range (n - lo).toNat).map f) := fun H0 e Q q => h H0 e _ fun H1 e1 =>
  ⟨lo, n, rfl, ⟨by omega, by omega, by omega, by omega⟩, fun D hD =>
    lc_range (lo := lo) (n := (n - lo).toNat) (fun i H' => H1 D = none ∧ Ex H1 H' ∧ H' D = some (.lst ((List.range i).map f))) ⟨hD, Ex.new hD, upd_same⟩
      (fun i H' hi p => by
        obtain ⟨p1, p2, p3⟩ := p
        refine ⟨hw _, ?_⟩
        show te ((wipe σ vs).set j (some (.int (lo + (i : Int))))) H' fun y H4 => ∃ acc, H4 D = some (.lst acc) ∧ acc.length < sizeLine ∧ _
        refine he i H1 (e.trans e1) (by omega) H' p2 _ fun H4 e4 => ⟨_, e4 _ _ p3, sz_lt ?_, p1, Ex.mut (p2.trans e4) p1, ?_⟩
        · rw [List.length_map, List.length_range]; omega
        · rw [List.range_succ, List.map_append]
          exact upd_same)
      (fun H' p => q D H' (fresh_back e1 p.1) (e1.trans p.2.1) p.2.2)⟩
theorem el_cat {l b : Addr} {xs ys : List V} (ha : Ev ta σ H (.ref l)) (hb : Ev tb σ H (.ref b)) (h1 : H l = some (.lst xs)) (h2 : H b = some (.lst ys)) (hz : xs.length + ys.length ≤ 100000) : EvL (tOp rCat ta tb) σ H (xs ++ ys) := fun H1 e Q q =>
  ha H1 e _ fun H2 e2 => hb H2 (e.trans e2) _ fun H3 e3 => ⟨l, b, xs, ys, rfl, rfl, ((e.trans e2).trans e3) _ _ h1, ((e.trans e2).trans e3) _ _ h2, sz_of hz, fun p hp => q p _ (fresh_back (e2.trans e3) hp) ((e2.trans e3).trans (Ex.new hp)) upd_same⟩
/-- (a new list, a new list) -/
theorem q_two {i : Nat} {xs ys : List V} {D : Ends} {tz : TS} (ha : EvL ta σ H xs) (hb : EvL tb σ H ys) (k : ∀ p q r H1, Ex H H1 → H1 p = some (.lst xs) → H1 q = some (.lst ys) → H1 r = some (.tup [.ref p, .ref q]) → tz D (σ.set i (some (.ref r))) H1) :
    tSeq (tAsg (tTup (tCons ta (tCons tb tNil))) (gName i)) tz D σ H :=
  ha H (Ex.refl H) _ fun p H1 hp e1 h1 => hb H1 e1 _ fun q H2 hq e2 h2 => ⟨by show 2 ≤ sizeLine; decide, fun r hr => k p q r _ ((e1.trans e2).trans (Ex.new hr)) (Ex.new hr _ _ (e2 _ _ h1)) (Ex.new hr _ _ h2) upd_same⟩
end

def topS (i : Nat) : Stmt := PySem.Challenge.pw_stylobate_k07_patterns.main.body.getD i (.Pass ⟨0, 0, 0, 0⟩)
abbrev s__pattern_parts : Stmt := topS 1
abbrev n__pattern_parts : List Str := ["pattern", "signs", "stars", "at", "sign"]
theorem sc__pattern_parts : FnScope n__pattern_parts ["pattern"] (C8.fnScope s__pattern_parts) := C8.fnScope_by (by decide +kernel)
abbrev s__places_of : Stmt := topS 2
abbrev n__places_of : List Str := ["signs", "wanted", "bits", "at", "sign"]
theorem sc__places_of : FnScope n__places_of ["signs", "wanted"] (C8.fnScope s__places_of) := C8.fnScope_by (by decide +kernel)
abbrev s_is_like : Stmt := topS 3
abbrev n_is_like : List Str := ["text", "pattern", "signs", "stars", "loops", "at", "star", "takes", "reached", "sign"]
theorem sc_is_like : FnScope n_is_like ["text", "pattern"] (C8.fnScope s_is_like) := C8.fnScope_by (by decide +kernel)
abbrev s__law_numbers : Stmt := topS 5
abbrev n__law_numbers : List Str := ["script", "count", "numbers", "k", "cell"]
theorem sc__law_numbers : FnScope n__law_numbers ["script", "count"] (C8.fnScope s__law_numbers) := C8.fnScope_by (by decide +kernel)
abbrev s__law_text : Stmt := topS 6
abbrev n__law_text : List Str := ["number", "size", "signs", "few", "word", "rest", "k"]
theorem sc__law_text : FnScope n__law_text ["number", "size"] (C8.fnScope s__law_text) := C8.fnScope_by (by decide +kernel)
abbrev s__law_pattern : Stmt := topS 7
abbrev n__law_pattern : List Str := ["number", "text", "pattern", "at", "k", "choice"]
theorem sc__law_pattern : FnScope n__law_pattern ["number", "text"] (C8.fnScope s__law_pattern) := C8.fnScope_by (by decide +kernel)
abbrev s__law_matches : Stmt := topS 8
abbrev n__law_matches : List Str := ["text", "pattern", "reached", "at", "_law_turn", "sign", "k"]
theorem sc__law_matches : FnScope n__law_matches ["text", "pattern"] (C8.fnScope s__law_matches) := C8.fnScope_by (by decide +kernel)
abbrev s_law : Stmt := topS 9
abbrev n_law : List Str := ["script", "numbers", "text", "pattern"]
theorem sc_law : FnScope n_law ["script"] (C8.fnScope s_law) := C8.fnScope_by (by decide +kernel)
/-! ### the law's numbers -/
def cell0 (ns : List Int) (k : Nat) : Int := if 0 < ns.length then ns.getD (k - k / ns.length * ns.length) 0 else 0
def cell1 (ns : List Int) (k : Nat) : Int := if cell0 ns k < 0 then 1 - 2 * cell0 ns k else cell0 ns k
def cellM (c : Int) (k : Nat) : Int := (((c + 101 * (k : Int) + 13) * 40692 + (k : Int) * (k : Int) * 6271) % 2147483399 + 29 * (k : Int) + 5) * 3935559000370003845 % 18446744073709551533
def cellN (ns : List Int) (k : Nat) : Int := if (ns.length : Int) ≤ (k : Int) ∨ cell1 ns k < 1000000000 then cellM (cell1 ns k) k else cell1 ns k
def lawN (ns : List Int) (c : Nat) : List Int := (List.range c).map (cellN ns)
theorem cell1_nn (ns : List Int) (k : Nat) : 0 ≤ cell1 ns k := by
  unfold cell1
  split <;> omega
theorem cellN_nn (ns : List Int) (k : Nat) : 0 ≤ cellN ns k := by
  unfold cellN
  split
  · unfold cellM
    exact Int.emod_nonneg _ (by decide)
  · exact cell1_nn ns k
theorem lawN_len (ns : List Int) (c : Nat) : (lawN ns c).length = c := by
  unfold lawN
  rw [List.length_map, List.length_range]
theorem lawN_nn {ns : List Int} {c : Nat} : ∀ n ∈ lawN ns c, 0 ≤ n := by
  intro n h
  unfold lawN at h
  obtain ⟨k, _, e⟩ := List.mem_map.mp h
  rw [← e]
  exact cellN_nn ns k
theorem lawN_get {ns : List Int} {c i : Nat} (h : i < c) : (lawN ns c)[i]? = some (cellN ns i) := by
  unfold lawN
  rw [List.getElem?_map, List.getElem?_range h] <;> rfl
/-- the k-th of them, as the law's list of values -/
theorem lawN_at {ns : List Int} {c i : Nat} (h : i < c) : atI ((lawN ns c).map V.int) (i : Int) = some (.int (cellN ns i)) := atI_nat (by
  rw [List.getElem?_map, lawN_get h] <;> rfl)
def sp__law_numbers (K : PySem.W.Frag) : Sp := fun vs H Q _ => ∃ (a : Addr) (ns : List Int) (c : Nat), vs = [.ref a, .int (c : Int)] ∧ SqL K H a (ns.map V.int) ∧ ns.length ≤ 63 ∧ c ≤ 1000 ∧
  ∀ p H', H p = none → Ex H H' → H' p = some (.lst ((lawN ns c).map V.int)) → Q (.ref p) H'
section
variable {P : Program} {w : World} {K : PySem.W.Frag} {mg : Str → Option Value} {base : Heap}
theorem ok__law_numbers (D : Dn K mg "_law_numbers" s__law_numbers ["script", "count"]) (z_int : mg "int" = none) (z_len : mg "len" = none) (z_range : mg "range" = none) :
    C8.Cal P w K mg base 1 "_law_numbers" (sp__law_numbers K) [] := by
  refine cal_of D sc__law_numbers (fun vs H Q E h => ?_) (fun f cdv A outer s H vs Q E hr h => ?_)
  · obtain ⟨_, _, _, rfl, _⟩ := h
    rfl
  refine ⟨_, (pss_cons (ps_set (i := 2) sc__law_numbers.nd rfl (.inl rfl) (pe_lst pa_nil))
    (pss_cons (ps_for PassesOwn.never rfl (pi_range1 rfl z_range (pa_cons (pv 1) pa_nil)) (pg_name (i := 3) sc__law_numbers.nd rfl (.inl rfl))
      (pss_cons (ps_set (i := 4) sc__law_numbers.nd rfl (.inl rfl) pe_int)
    (pss_cons (ps_if (pt_cmpR op_gt (pe_callB call_len_seq (by rfl) z_len PySem.boot_len (pa_cons (pv 0) pa_nil)) pe_int (nomark _))
      (pss_one (ps_set (i := 4) sc__law_numbers.nd rfl (.inl rfl) (pe_callTy call_int1 (by rfl) z_int (by decide +kernel) (pa_cons (pe_ix ix_list (pv 0) (pe_op op_sub (pv 3) (pe_op op_mul (pe_op op_fdiv (pv 3) (pe_callB call_len_seq (by rfl) z_len PySem.boot_len (pa_cons (pv 0) pa_nil))) (pe_callB call_len_seq (by rfl) z_len PySem.boot_len (pa_cons (pv 0) pa_nil)))) (fun _ _ => rfl)) pa_nil))))
      pss_nil)
    (pss_cons (ps_if (pt_cmpR op_lt (pv 4) pe_int (nomark _))
      (pss_one (ps_set (i := 4) sc__law_numbers.nd rfl (.inl rfl) (pe_op op_sub pe_int (pe_op op_mul pe_int (pv 4)))))
      pss_nil)
    (Evl.pss_cut (ps_if (PW.pt (pw_or (pt_cmpR op_ge (pv 3) (pe_callB call_len_seq (by rfl) z_len PySem.boot_len (pa_cons (pv 0) pa_nil)) (nomark _)) (pw_or1 (pt_cmpR op_lt (pv 4) pe_int (nomark _)))))
      (pss_cons (ps_set (i := 4) sc__law_numbers.nd rfl (.inl rfl) (pe_op op_mod (pe_callTy call_int1 (by rfl) z_int (by decide +kernel) (pa_cons (pe_op op_add (pe_op op_mul (pe_op op_add (pe_op op_add (pv 4) (pe_op op_mul pe_int (pv 3))) pe_int) pe_int) (pe_op op_mul (pe_op op_mul (pv 3) (pv 3)) pe_int)) pa_nil)) pe_int))
    (pss_one (ps_set (i := 4) sc__law_numbers.nd rfl (.inl rfl) (pe_op op_mod (pe_callTy call_int1 (by rfl) z_int (by decide +kernel) (pa_cons (pe_op op_mul (pe_op op_add (pe_op op_add (pv 4) (pe_op op_mul pe_int (pv 3))) pe_int) pe_int) pa_nil)) pe_int))))
      pss_nil)
    (pss_one (ps_expr (pe_bm PySem.F.plainAttrs_list PySem.F.slot_list_append PySem.F.type_list_append mt_append (pv 2) (pa_cons (pv 4) pa_nil)))))))))
    (pss_one (ps_ret (pv 2))))), ?_⟩
  obtain ⟨a, ns, c, rfl, hS, h63, hc, q⟩ := h
  have hl : (ns.map V.int).length = ns.length := List.length_map _
  refine q_asgL (el_lst ea_nil (by decide)) fun p H1 hp e1 h1 => ?_
  refine q_forR1 (n := (c : Int)) (ea_cons (ev_var rfl) ea_nil) ⟨by omega, by omega⟩
    (fun i σ H' => ∃ y3 y4, σ = [some (.ref a), some (.int (c : Int)), some (.ref p), y3, y4] ∧ Ex H H' ∧ H' p = some (.lst ((lawN ns i).map V.int)))
    (fun H2 e2 => ⟨none, none, rfl, e1.trans e2, e2 _ _ h1⟩) (fun i σ H2 hi hw => ?_) (fun σ H2 hw => ?_)
  · obtain ⟨y3, y4, rfl, e2, h2⟩ := hw
    have hS2 : SqL K H2 a (ns.map V.int) := ex_l e2 hS
    refine q_asg ev_c fun H3 e3 => ?_
    have hS3 : SqL K H3 a (ns.map V.int) := ex_l e3 hS2
    -- the cell as the script has it
    refine q_ifAsg (v := .int (cell0 ns i)) (b := decide ((0 : Int) < ((ns.map V.int).length : Int))) ?_ (fun hb => ?_) (fun hb => ?_) fun H4 e4 => ?_
    · walk_at "et"
    · have h0 : 0 < ns.length := by
        have := of_decide_eq_true hb
        rw [hl] at this
        omega
      have em : i / ns.length * ns.length ≤ i := Nat.div_mul_le_self i ns.length
      have hlt : i - i / ns.length * ns.length < ns.length := by
        have := Nat.mod_lt i h0
        have := Nat.div_add_mod i ns.length
        rw [Nat.mul_comm] at this
        omega
      have ea : atI (ns.map V.int) ((i : Int) - (i : Int) / ((ns.map V.int).length : Int) * ((ns.map V.int).length : Int)) = some (.int (cell0 ns i)) := by
        rw [hl]
        have e5 : (i : Int) - (i : Int) / (ns.length : Int) * (ns.length : Int) = ((i - i / ns.length * ns.length : Nat) : Int) := by
          rw [Int.ofNat_sub em, Int.natCast_mul, Int.natCast_ediv]
        rw [e5]
        refine atI_nat ?_
        unfold cell0
        rw [if_pos h0, List.getElem?_map, List.getElem?_eq_getElem hlt, List.getD_eq_getElem?_getD, List.getElem?_eq_getElem hlt] <;> rfl
      refine ev_int (ev_op (ev_var rfl) (ev_op (ev_var rfl) (ev_op (ev_op (ev_var rfl) (ev_len (ev_var rfl) hS3) (rv_I ⟨?_, ?_⟩)) (ev_len (ev_var rfl) hS3) (rv_I ?_)) rv_I0) (rv_ixL hS3 ea))
      · rw [hl]; omega
      · rw [hl]; omega
      · rw [hl]; exact .inr ⟨by omega, by omega⟩
    · have h0 : ¬ 0 < ns.length := by
        have := of_decide_eq_false hb
        rw [hl] at this
        omega
      unfold cell0
      rw [if_neg h0]
      rfl
    have hS4 : SqL K H4 a (ns.map V.int) := ex_l e4 hS3
    refine q_ifAsg (v := .int (cell1 ns i)) (b := decide (cell0 ns i < 0)) (by walk_at "et") (fun hb => ?_) (fun hb => ?_) fun H5 e5 => ?_
    · refine ev_is (v := .int (1 - 2 * cell0 ns i)) (by walk_at "ev") ?_
      unfold cell1
      rw [if_pos (of_decide_eq_true hb)]
    · unfold cell1
      rw [if_neg (of_decide_eq_false hb)]
      rfl
    have hS5 : SqL K H5 a (ns.map V.int) := ex_l e5 hS4
    have h5 : H5 p = some (.lst ((lawN ns i).map V.int)) := e5 _ _ (e4 _ _ (e3 _ _ h2))
    have x5 : Ex H H5 := ((e2.trans e3).trans e4).trans e5
    -- the cell mixed
    refine q_cut (M := fun σ H' => σ = [some (.ref a), some (.int (c : Int)), some (.ref p), some (.int (i : Int)), some (.int (cellN ns i))] ∧ Ex H5 H') ?_ ?_
    · refine s_if (b := decide ((((ns.map V.int).length : Nat) : Int) ≤ (i : Int)) || decide (cell1 ns i < 1000000000)) ?_ (fun hb H6 e6 => ?_) (fun hb H6 e6 => ?_)
      · exact et_or (et_test (ev_op (ev_var rfl) (ev_len (ev_var rfl) hS5) rv_I0)) fun _ => et_test (ev_op (ev_var rfl) ev_c rv_I0)
      · have hb' : (ns.length : Int) ≤ (i : Int) ∨ cell1 ns i < 1000000000 := by
          rw [Bool.or_eq_true, decide_eq_true_eq, decide_eq_true_eq, hl] at hb
          exact hb
        refine q_asg (v := .int (((cell1 ns i + 101 * (i : Int) + 13) * 40692 + (i : Int) * (i : Int) * 6271) % 2147483399)) ?_ fun H7 e7 => ?_
        · refine ev_op (ev_int (ev_op (ev_op (ev_op (ev_op (ev_var rfl) (ev_op ev_c (ev_var rfl) (rv_I (.inl ⟨by decide, by decide⟩))) rv_I0) ev_c rv_I0) ev_c (rv_I (.inr ⟨by decide, by decide⟩))) (ev_op (ev_op (ev_var rfl) (ev_var rfl) (rv_I (.inl ⟨by omega, by omega⟩))) ev_c (rv_I (.inr ⟨by decide, by decide⟩))) rv_I0)) ev_c (rv_I (by decide))
        refine s_asg (v := .int (cellN ns i)) ?_ fun H8 e8 => ⟨rfl, (e6.trans e7).trans e8⟩
        refine ev_is (ev_op (ev_int (ev_op (ev_op (ev_op (ev_var rfl) (ev_op ev_c (ev_var rfl) (rv_I (.inl ⟨by decide, by decide⟩))) rv_I0) ev_c rv_I0) ev_c (rv_I (.inr ⟨by decide, by decide⟩)))) ev_c (rv_I (by decide))) ?_
        unfold cellN
        rw [if_pos hb']
        rfl
      · have hb' : ¬ ((ns.length : Int) ≤ (i : Int) ∨ cell1 ns i < 1000000000) := by
          intro z
          rw [Bool.or_eq_false_iff, decide_eq_false_iff_not, decide_eq_false_iff_not, hl] at hb
          rcases z with z | z
          · exact hb.1 z
          · exact hb.2 z
        refine ⟨?_, e6⟩
        unfold cellN
        rw [if_neg hb']
        rfl
    · intro σ' H' hm
      obtain ⟨rfl, x6⟩ := hm
      refine s_app (x6 _ _ h5) (ev_var rfl) (ev_var rfl) (by rw [List.length_map, lawN_len]; omega) fun H7 e7 => ?_
      refine ⟨_, _, rfl, Ex.mut ((x5.trans x6).trans e7) hp, ?_⟩
      rw [upd_same]
      unfold lawN
      rw [List.range_succ, List.map_append, List.map_append]
      rfl
  · obtain ⟨y3, y4, rfl, e2, h2⟩ := hw
    have ec : ((c : Int)).toNat = c := by omega
    rw [ec] at h2
    exact s_ret (ev_var rfl) fun H3 e3 => q p H3 hp (e2.trans e3) (e3 _ _ h2)
end

/-! ### the law's texts and values -/
def signsL : List Nat := (PySem.Str.ofString " !\"#$&'()*+,-./0123456789:;<=>?@ABCDEFGHIJKLMNOPQRSTUVWXYZ[\\]^_`abcdefghijklmnopqrstuvwxyz{|}~").cps.toList
def fewL : List Nat := (PySem.Str.ofString "ab*?\\ -'\"A").cps.toList
theorem signs_len : signsL.length = 94 := by decide +kernel
theorem few_len : fewL.length = 10 := by decide +kernel
theorem signs_ok : ∀ c ∈ signsL, 32 ≤ c ∧ c ≤ 126 := by decide +kernel
theorem few_ok : ∀ c ∈ fewL, 32 ≤ c ∧ c ≤ 126 := by decide +kernel
/-- what is written so far, and the rest of the number -/
def lawTS (n : Int) : Nat → List Nat × Int
  | 0 => ([], n / 3)
  | k + 1 => if n % 3 = 0 then ((lawTS n k).1 ++ [signsL.getD ((lawTS n k).2 % 94).toNat 0], (lawTS n k).2 / 94 + 7 * (k : Int))
      else ((lawTS n k).1 ++ [fewL.getD ((lawTS n k).2 % 10).toNat 0], (lawTS n k).2 / 10 + 7 * (k : Int))
def lawT (n : Int) (size : Nat) : List Nat := (lawTS n size).1
def okC (c : Nat) : Prop := 32 ≤ c ∧ c ≤ 126
theorem getD_mem {l : List Nat} {i : Nat} (h : i < l.length) : l.getD i 0 ∈ l := by
  rw [List.getD_eq_getElem?_getD, List.getElem?_eq_getElem h]
  exact List.getElem_mem h
theorem sign_at {l : List Nat} {r : Int} {m : Nat} (hl : l.length = m) (hm : 0 < m) : (r % (m : Int)).toNat < l.length := by
  have h1 := Int.emod_nonneg r (show (m : Int) ≠ 0 by omega)
  have h2 := Int.emod_lt_of_pos r (show (0 : Int) < (m : Int) by omega)
  omega
theorem pick {l : List Nat} {r : Int} {m : Nat} (hl : l.length = m) (hm : 0 < m) : atI l (r % (m : Int)) = some (l.getD (r % (m : Int)).toNat 0) := by
  have hx := sign_at (r := r) hl hm
  have h1 := Int.emod_nonneg r (show (m : Int) ≠ 0 by omega)
  have e : atI l (((r % (m : Int)).toNat : Nat) : Int) = some (l.getD (r % (m : Int)).toNat 0) := atI_nat (by
    rw [List.getElem?_eq_getElem hx, List.getD_eq_getElem?_getD, List.getElem?_eq_getElem hx] <;> rfl)
  rw [Int.toNat_of_nonneg h1] at e
  exact e
theorem lawT_len (n : Int) : ∀ k, (lawT n k).length = k
  | 0 => rfl
  | k + 1 => by
    have ih := lawT_len n k
    unfold lawT at ih ⊢
    rw [lawTS]
    split <;> (show (_ ++ [_]).length = k + 1; rw [List.length_append, ih] <;> rfl)
theorem lawT_ok (n : Int) : ∀ k, ∀ c ∈ lawT n k, okC c
  | 0, c, h => by cases h
  | k + 1, c, h => by
    have ih := lawT_ok n k
    unfold lawT at ih h
    rw [lawTS] at h
    split at h
    · rcases List.mem_append.mp h with h | h
      · exact ih c h
      · rw [List.mem_singleton.mp h]
        exact signs_ok _ (getD_mem (sign_at signs_len (by decide)))
    · rcases List.mem_append.mp h with h | h
      · exact ih c h
      · rw [List.mem_singleton.mp h]
        exact few_ok _ (getD_mem (sign_at few_len (by decide)))
def lawV (n : Int) : V :=
  if n % 8 = 0 then .non else if n % 8 = 1 then .bl (decide (n / 8 % 2 = 0)) else if n % 8 = 2 then .int (n / 8 % 3 - 1)
  else if n % 8 = 3 then .int (n / 8 % 2000000000000001 - 1000000000000000) else if n % 8 = 4 then .int (n / 8 % 3652059 - 719162)
  else if n % 8 = 5 then .int (n / 8 % 40 - 20) else .str (SX.S (lawT (n / 8 / 13) (n / 8 % 13).toNat))
/-- a plain value: None, a boolean, a small integer, a short text of plain signs -/
inductive VOk : V → Prop where
  | non : VOk .non
  | bl (b : Bool) : VOk (.bl b)
  | int (i : Int) (h : -1000000000000000 ≤ i ∧ i ≤ 1000000000000000) : VOk (.int i)
  | str (l : List Nat) (h : l.length ≤ 12) (hc : ∀ c ∈ l, okC c) : VOk (.str (SX.S l))
theorem lawV_ok (n : Int) : VOk (lawV n) := by
  unfold lawV
  split
  · exact .non
  split
  · exact .bl _
  split
  · exact .int _ (by omega)
  split
  · exact .int _ (by omega)
  split
  · exact .int _ (by omega)
  split
  · exact .int _ (by omega)
  · exact .str _ (by rw [lawT_len]; omega) (lawT_ok _ _)
def sp__law_text (K : PySem.W.Frag) : Sp := fun vs H Q _ => ∃ (n : Int) (z : Nat), vs = [.int n, .int (z : Int)] ∧ z ≤ 1000 ∧ ∀ H', Ex H H' → Q (.str (SX.S (lawT n z))) H'
def sp__law_value (K : PySem.W.Frag) : Sp := fun vs H Q _ => ∃ n : Int, vs = [.int n] ∧ ∀ H', Ex H H' → Q (lawV n) H'
theorem join_ones : ∀ l : List Nat, Txt.join (SX.S []) (l.map fun c => (⟨#[c]⟩ : Str)) = SX.S l := by
  intro l
  have e : (l.map fun c => (⟨#[c]⟩ : Str)) = (l.map fun c => [c]).map SX.S := by
    rw [List.map_map]
    rfl
  rw [e, SX.join_S]
  congr 1
  induction l with
  | nil => rfl
  | cons c r ih =>
    cases r with
    | nil => rfl
    | cons d r => 
      have e2 : TL.joinL [] (List.map (fun c => [c]) (c :: d :: r)) = c :: TL.joinL [] (List.map (fun c => [c]) (d :: r)) := rfl
      rw [e2, ih (by rw [List.map_map]; rfl)]
section
variable {P : Program} {w : World} {K : PySem.W.Frag} {mg : Str → Option Value} {base : Heap}
theorem ok__law_text (D : Dn K mg "_law_text" s__law_text ["number", "size"]) (z_int : mg "int" = none) (z_range : mg "range" = none) :
    C8.Cal P w K mg base 1 "_law_text" (sp__law_text K) [] := by
  refine cal_of D sc__law_text (fun vs H Q E h => ?_) (fun f cdv A outer s H vs Q E hr h => ?_)
  · obtain ⟨_, _, rfl, _⟩ := h
    rfl
  refine ⟨_, (pss_cons (ps_set (i := 2) sc__law_text.nd rfl (.inl rfl) pe_str)
    (pss_cons (ps_set (i := 3) sc__law_text.nd rfl (.inl rfl) pe_str)
    (pss_cons (ps_set (i := 4) sc__law_text.nd rfl (.inl rfl) (pe_lst pa_nil))
    (pss_cons (ps_set (i := 5) sc__law_text.nd rfl (.inl rfl) (pe_op op_fdiv (pe_callTy call_int1 (by rfl) z_int (by decide +kernel) (pa_cons (pv 0) pa_nil)) pe_int))
    (pss_cons (ps_for PassesOwn.never rfl (pi_range1 rfl z_range (pa_cons (pv 1) pa_nil)) (pg_name (i := 6) sc__law_text.nd rfl (.inl rfl))
      (pss_one (ps_if (pt_cmpR op_eq (pe_op op_mod (pe_callTy call_int1 (by rfl) z_int (by decide +kernel) (pa_cons (pv 0) pa_nil)) pe_int) pe_int (nomark _))
      (pss_cons (ps_expr (pe_bm PySem.F.plainAttrs_list PySem.F.slot_list_append PySem.F.type_list_append mt_append (pv 4) (pa_cons (pe_ix ix_str (pv 2) (pe_op op_mod (pe_callTy call_int1 (by rfl) z_int (by decide +kernel) (pa_cons (pv 5) pa_nil)) pe_int) (fun _ _ => rfl)) pa_nil)))
    (pss_one (ps_set (i := 5) sc__law_text.nd rfl (.inl rfl) (pe_op op_add (pe_op op_fdiv (pv 5) pe_int) (pe_op op_mul pe_int (pv 6))))))
      (pss_cons (ps_expr (pe_bm PySem.F.plainAttrs_list PySem.F.slot_list_append PySem.F.type_list_append mt_append (pv 4) (pa_cons (pe_ix ix_str (pv 3) (pe_op op_mod (pe_callTy call_int1 (by rfl) z_int (by decide +kernel) (pa_cons (pv 5) pa_nil)) pe_int) (fun _ _ => rfl)) pa_nil)))
    (pss_one (ps_set (i := 5) sc__law_text.nd rfl (.inl rfl) (pe_op op_add (pe_op op_fdiv (pv 5) pe_int) (pe_op op_mul pe_int (pv 6)))))))))
    (pss_one (ps_ret (pe_join pe_str (pv 4))))))))), ?_⟩
  obtain ⟨n, z, rfl, hz, q⟩ := h
  refine q_asg ev_c fun H1 e1 => ?_
  refine q_asg ev_c fun H2 e2 => ?_
  refine q_asgL (el_lst ea_nil (by decide)) fun p H3 hp e3 h3 => ?_
  refine q_asg (v := .int (n / 3)) (by walk_at "ev") fun H4 e4 => ?_
  have x2 : Ex H H2 := e1.trans e2
  refine q_forR1 (n := (z : Int)) (ea_cons (ev_var rfl) ea_nil) ⟨by omega, by omega⟩
    (fun i σ H' => ∃ y6, σ = [some (.int n), some (.int (z : Int)), some (.str (SX.S signsL)), some (.str (SX.S fewL)), some (.ref p), some (.int (lawTS n i).2), y6] ∧ Ex H2 H' ∧ H' p = some (.lst ((lawT n i).map fun c => V.str ⟨#[c]⟩)))
    (fun H5 e5 => ⟨none, rfl, (e3.trans e4).trans e5, e5 _ _ (e4 _ _ h3)⟩) (fun i σ H5 hi hw => ?_) (fun σ H5 hw => ?_)
  · obtain ⟨y6, rfl, e5, h5⟩ := hw
    have hlen : (((lawT n i).map fun c => V.str ⟨#[c]⟩)).length < 100000 := by
      rw [List.length_map, lawT_len]
      omega
    refine s_if (b := decide (V.int (n % 3) = V.int 0)) (by walk_at "et") (fun hb H6 e6 => ?_) (fun hb H6 e6 => ?_)
    · have hb' : n % 3 = 0 := V.int.inj (of_decide_eq_true hb)
      have hx := sign_at (r := (lawTS n i).2) signs_len (by decide)
      refine q_app (v := .str ⟨#[signsL.getD ((lawTS n i).2 % 94).toNat 0]⟩) (e6 _ _ h5) (ev_var rfl) ?_ hlen fun H7 e7 => ?_
      · refine ev_op (ev_var rfl) (y := .int ((lawTS n i).2 % 94)) (by walk_at "ev") (rv_ixS (by decide +kernel) ?_)
        exact pick (m := 94) signs_len (by decide)
      refine s_asg (v := .int ((lawTS n (i + 1)).2)) ?_ fun H8 e8 => ?_
      · refine ev_is (v := .int ((lawTS n i).2 / 94 + 7 * (i : Int))) (by walk_at "ev") ?_
        rw [lawTS, if_pos hb']
      · refine ⟨_, rfl, (Ex.mut ((e5.trans e6).trans e7) (fresh_back (Ex.refl _) hp)).trans e8, ?_⟩
        refine e8 _ _ ?_
        rw [upd_same]
        unfold lawT
        rw [lawTS, if_pos hb', List.map_append]
        rfl
    · have hb' : ¬ n % 3 = 0 := fun e => of_decide_eq_false hb (by rw [e])
      have hx := sign_at (r := (lawTS n i).2) few_len (by decide)
      refine q_app (v := .str ⟨#[fewL.getD ((lawTS n i).2 % 10).toNat 0]⟩) (e6 _ _ h5) (ev_var rfl) ?_ hlen fun H7 e7 => ?_
      · refine ev_op (ev_var rfl) (y := .int ((lawTS n i).2 % 10)) (by walk_at "ev") (rv_ixS (by decide +kernel) ?_)
        exact pick (m := 10) few_len (by decide)
      refine s_asg (v := .int ((lawTS n (i + 1)).2)) ?_ fun H8 e8 => ?_
      · refine ev_is (v := .int ((lawTS n i).2 / 10 + 7 * (i : Int))) (by walk_at "ev") ?_
        rw [lawTS, if_neg hb']
      · refine ⟨_, rfl, (Ex.mut ((e5.trans e6).trans e7) (fresh_back (Ex.refl _) hp)).trans e8, ?_⟩
        refine e8 _ _ ?_
        rw [upd_same]
        unfold lawT
        rw [lawTS, if_neg hb', List.map_append]
        rfl
  · obtain ⟨y6, rfl, e5, h5⟩ := hw
    have ez : ((z : Int)).toNat = z := by omega
    rw [ez] at h5
    have hl : ((lawT n z).map fun c => V.str ⟨#[c]⟩) = ((lawT n z).map fun c => (⟨#[c]⟩ : Str)).map V.str := by
      rw [List.map_map]
      rfl
    refine ⟨⟨_, rfl⟩, _, rfl, SX.S [], p, (lawT n z).map fun c => (⟨#[c]⟩ : Str), rfl, rfl, .inl (sq_of ?_), ?_, ?_⟩
    · rw [← hl]
      exact h5
    · have e9 : ((lawT n z).map fun c => (⟨#[c]⟩ : Str)).map (·.length) = List.replicate z 1 := by
        rw [List.map_map, List.eq_replicate_iff]
        refine ⟨by rw [List.length_map, lawT_len], fun b hb => ?_⟩
        obtain ⟨c, _, rfl⟩ := List.mem_map.mp hb
        rfl
      rw [e9, List.sum_replicate_nat, List.length_map, lawT_len]
      show z * 1 + z * 0 ≤ _
      omega
    · rw [join_ones]
      exact q _ (x2.trans e5)
theorem ec_text {σ : L2.St} {H : Hp} {ta tb : TE} {E : XK} {n m : Int} (ha : Ev ta σ H (.int n)) (hb : Ev tb σ H (.int m)) (h0 : 0 ≤ m) (h1 : m ≤ 1000) : Ev (tCall (sp__law_text K) [] E (tCons ta (tCons tb tNil))) σ H (.str (SX.S (lawT n m.toNat))) :=
  ev_call (ea_cons ha (ea_cons hb ea_nil)) fun H1 e Q q E => ⟨n, m.toNat, by rw [Int.toNat_of_nonneg h0]; rfl, by omega, q⟩

end
/-! ### the mathematics: patterns -/
theorem bor (a b : Nat) : Builtin.bitOr (a : Int) (b : Int) = ((a ||| b : Nat) : Int) := by
  have h1 : ∀ x : Nat, Builtin.bitNot (x : Int) = -(x : Int) - 1 := fun x => by unfold Builtin.bitNot; omega
  have h2 : ∀ x : Nat, Builtin.bitNot (-(x : Int) - 1) = (x : Int) := fun x => by unfold Builtin.bitNot; omega
  unfold Builtin.bitOr Builtin.bitAnd
  rw [h1, h1, decide_eq_false (show ¬ 0 ≤ -(a : Int) - 1 by omega), decide_eq_false (show ¬ 0 ≤ -(b : Int) - 1 by omega)]
  show Builtin.bitNot (Builtin.bitNot _) = _
  rw [h2, h2, Int.toNat_natCast, Int.toNat_natCast, h1, h2]
theorem band (a b : Nat) : Builtin.bitAnd (a : Int) (b : Int) = ((a &&& b : Nat) : Int) := by
  rw [bitAnd_pp (by omega) (by omega), Int.toNat_natCast, Int.toNat_natCast]
def mt (s : Option Nat) (c : Nat) : Bool := match s with | none => true | some d => d == c
def par : Nat → List Nat → List (Option Nat) → List Bool → List (Option Nat) × List Bool
  | 0, _, S, B => (S, B)
  | _ + 1, [], S, B => (S, B)
  | f + 1, c :: r, S, B => if c = 42 then par f r S (B.set S.length true) else if c = 63 then par f r (S ++ [none]) (B ++ [false]) else if c = 92 ∧ r ≠ [] then par f r.tail (S ++ [some (r.headD 0)]) (B ++ [false]) else par f r (S ++ [some c]) (B ++ [false])
theorem par_fuel : ∀ (f g : Nat) (l : List Nat) (S : List (Option Nat)) (B : List Bool), l.length ≤ f → l.length ≤ g → par f l S B = par g l S B
  | 0, 0, _, _, _, _, _ => rfl
  | 0, g + 1, [], _, _, _, _ => rfl
  | f + 1, 0, [], _, _, _, _ => rfl
  | f + 1, g + 1, [], _, _, _, _ => rfl
  | f + 1, g + 1, c :: r, S, B, h1, h2 => by
    have h1' : r.length ≤ f := by simp at h1; omega
    have h2' : r.length ≤ g := by simp at h2; omega
    have h3 : r.tail.length ≤ f := by rw [List.length_tail]; omega
    have h4 : r.tail.length ≤ g := by rw [List.length_tail]; omega
    rw [par, par, par_fuel f g r _ _ h1' h2', par_fuel f g r _ _ h1' h2', par_fuel f g r _ _ h1' h2', par_fuel f g r.tail _ _ h3 h4]
/-- the pattern from a place on, with what was read in front of it -/
def parL (L : List Nat) (a : Nat) (S : List (Option Nat)) (B : List Bool) : List (Option Nat) × List Bool := par L.length (L.drop a) S B
theorem parL_end {L : List Nat} {a : Nat} {S : List (Option Nat)} {B : List Bool} (h : L.length ≤ a) : parL L a S B = (S, B) := by
  unfold parL
  rw [List.drop_eq_nil_of_le h]
  cases L.length <;> rfl
theorem parL_at {L : List Nat} {a c : Nat} {S : List (Option Nat)} {B : List Bool} (h : L[a]? = some c) :
    parL L a S B = if c = 42 then parL L (a + 1) S (B.set S.length true) else if c = 63 then parL L (a + 1) (S ++ [none]) (B ++ [false]) else if c = 92 ∧ a + 1 < L.length then parL L (a + 2) (S ++ [some (L.getD (a + 1) 0)]) (B ++ [false]) else parL L (a + 1) (S ++ [some c]) (B ++ [false]) := by
  obtain ⟨ha, hc⟩ := List.getElem?_eq_some_iff.mp h
  unfold parL
  have e : L.drop a = c :: L.drop (a + 1) := by rw [List.drop_eq_getElem_cons ha, hc]
  obtain ⟨f, hf⟩ : ∃ f, L.length = f + 1 := ⟨L.length - 1, by omega⟩
  have k1 : (L.drop (a + 1)).length ≤ f := by rw [List.length_drop]; omega
  have k2 : (L.drop (a + 2)).length ≤ f := by rw [List.length_drop]; omega
  have e2 : (L.drop (a + 1)).tail = L.drop (a + 2) := List.tail_drop
  have e3 : (L.drop (a + 1)).headD 0 = L.getD (a + 1) 0 := by
    rw [List.headD_eq_head?_getD, List.head?_drop, List.getD_eq_getElem?_getD]
  have e4 : (L.drop (a + 1) ≠ []) = (a + 1 < L.length) := by
    rw [ne_eq, List.drop_eq_nil_iff]; exact propext ⟨fun h => by omega, fun h => by omega⟩
  have hF : L.length ≤ L.length := Nat.le_refl _
  have w1 : ∀ S B, par L.length (L.drop (a + 1)) S B = par f (L.drop (a + 1)) S B := fun S B => par_fuel _ _ _ _ _ (by omega) k1
  have w2 : ∀ S B, par L.length (L.drop (a + 2)) S B = par f (L.drop (a + 2)) S B := fun S B => par_fuel _ _ _ _ _ (by omega) k2
  rw [e, w1, w1, w1, w2]
  conv => lhs; rw [hf]
  rw [par, e2, e3]
  simp only [e4]
def rc (S : List (Option Nat)) (B : List Bool) (T : List Nat) : Nat → Nat → Bool
  | 0, j => j == 0
  | k + 1, j => (B.getD j false && rc S B T k j) || (decide (0 < j) && (mt (S.getD (j - 1) none) (T.getD k 0) && rc S B T k (j - 1)))
theorem rc_succ (S : List (Option Nat)) (B : List Bool) (T : List Nat) (k j : Nat) : rc S B T (k + 1) j = ((B.getD j false && rc S B T k j) || (decide (0 < j) && (mt (S.getD (j - 1) none) (T.getD k 0) && rc S B T k (j - 1)))) := rfl
theorem rc_congr {S S' : List (Option Nat)} {B B' : List Bool} {T : List Nat} : ∀ k j, (∀ i, i ≤ j → B.getD i false = B'.getD i false) → (∀ i, i < j → S.getD i none = S'.getD i none) → rc S B T k j = rc S' B' T k j
  | 0, j, _, _ => rfl
  | k + 1, j, hB, hS => by
    rw [rc_succ, rc_succ, hB j (Nat.le_refl j), rc_congr k j hB hS]
    cases j with
    | zero => rfl
    | succ i =>
      show _ = ((_ : Bool) || (_ && (mt (S'.getD i none) _ && rc S' B' T k i)))
      rw [show i + 1 - 1 = i from rfl, hS i (by omega), rc_congr k i (fun x hx => hB x (by omega)) (fun x hx => hS x (by omega))]
theorem getD_app {α : Type} {l r : List α} {d : α} {i : Nat} (h : i < l.length) : (l ++ r).getD i d = l.getD i d := by
  rw [List.getD_eq_getElem?_getD, List.getD_eq_getElem?_getD, List.getElem?_append_left h]
theorem getD_at {α : Type} {l : List α} {d x : α} : (l ++ [x]).getD l.length d = x := by
  rw [List.getD_eq_getElem?_getD, List.getElem?_append_right (Nat.le_refl _), Nat.sub_self] <;> rfl
theorem getD_set {l : List Bool} {i j : Nat} (h : i ≠ j) (x : Bool) : (l.set j x).getD i false = l.getD i false := by
  rw [List.getD_eq_getElem?_getD, List.getD_eq_getElem?_getD, List.getElem?_set_ne (Ne.symm h)]
theorem getD_set_same {l : List Bool} {j : Nat} (h : j < l.length) (x : Bool) : (l.set j x).getD j false = x := by
  rw [List.getD_eq_getElem?_getD, List.getElem?_set_self h] <;> rfl
theorem rc_push {S : List (Option Nat)} {B : List Bool} {T : List Nat} {s : Option Nat} (hB : B.length = S.length + 1) (k : Nat) :
    rc (S ++ [s]) (B ++ [false]) T (k + 1) (S.length + 1) = (mt s (T.getD k 0) && rc S B T k S.length) := by
  have e1 : (B ++ [false]).getD (S.length + 1) false = false := by rw [← hB, getD_at]
  rw [rc_succ, e1, Bool.false_and, Bool.false_or, decide_eq_true (Nat.succ_pos _), Bool.true_and, show S.length + 1 - 1 = S.length from rfl, getD_at]
  rw [rc_congr (S := S ++ [s]) (S' := S) (B' := B) k S.length (fun i hi => getD_app (by omega)) (fun i hi => getD_app hi)]
theorem rc_star {S : List (Option Nat)} {B : List Bool} {T : List Nat} (hB : B.length = S.length + 1) : ∀ k, rc S (B.set S.length true) T k S.length = true ↔ ∃ k', k' ≤ k ∧ rc S B T k' S.length = true
  | 0 => ⟨fun h => ⟨0, Nat.le_refl 0, h⟩, fun ⟨k', h1, h2⟩ => by rw [show k' = 0 by omega] at h2; exact h2⟩
  | k + 1 => by
    have ih := rc_star hB k (T := T)
    have eX : (decide (0 < S.length) && (mt (S.getD (S.length - 1) none) (T.getD k 0) && rc S (B.set S.length true) T k (S.length - 1))) = (decide (0 < S.length) && (mt (S.getD (S.length - 1) none) (T.getD k 0) && rc S B T k (S.length - 1))) := by
      by_cases h : 0 < S.length
      · rw [rc_congr (S' := S) (B' := B) k (S.length - 1) (fun x hx => getD_set (by omega) true) (fun x hx => rfl)]
      · rw [decide_eq_false h, Bool.false_and, Bool.false_and]
    have e1 : rc S (B.set S.length true) T (k + 1) S.length = (rc S (B.set S.length true) T k S.length || (decide (0 < S.length) && (mt (S.getD (S.length - 1) none) (T.getD k 0) && rc S B T k (S.length - 1)))) := by
      rw [rc_succ, eX, getD_set_same (by omega), Bool.true_and]
    have e2 : rc S B T (k + 1) S.length = ((B.getD S.length false && rc S B T k S.length) || (decide (0 < S.length) && (mt (S.getD (S.length - 1) none) (T.getD k 0) && rc S B T k (S.length - 1)))) := rc_succ _ _ _ _ _
    rw [e1, Bool.or_eq_true]
    constructor
    · rintro (h | h)
      · obtain ⟨k', h1, h2⟩ := ih.mp h
        exact ⟨k', by omega, h2⟩
      · exact ⟨k + 1, Nat.le_refl _, by rw [e2, h, Bool.or_true]⟩
    · rintro ⟨k', h1, h2⟩
      by_cases hk : k' ≤ k
      · exact .inl (ih.mpr ⟨k', hk, h2⟩)
      · rw [show k' = k + 1 by omega, e2, Bool.or_eq_true, Bool.and_eq_true] at h2
        rcases h2 with ⟨_, h⟩ | h
        · exact .inl (ih.mpr ⟨k, Nat.le_refl k, h⟩)
        · exact .inr h
def Reach (S : List (Option Nat)) (B : List Bool) (T : List Nat) (ks : List Nat) : Prop := ∀ k, k ∈ ks ↔ k ≤ T.length ∧ rc S B T k S.length = true
theorem reach_0 (T : List Nat) : Reach [] [false] T [0] := by
  intro k
  rw [List.mem_singleton]
  cases k with
  | zero => exact ⟨fun _ => ⟨Nat.zero_le _, rfl⟩, fun _ => rfl⟩
  | succ k => exact ⟨fun h => by omega, fun h => nomatch (show false = true from h.2)⟩
theorem reach_star {S : List (Option Nat)} {B : List Bool} {T : List Nat} {ks : List Nat} {m : Nat} (h : Reach S B T ks) (hB : B.length = S.length + 1) (hm : m ∈ ks) (hl : ∀ x ∈ ks, m ≤ x) :
    Reach S (B.set S.length true) T ((List.range (T.length + 1 - m)).map fun i => m + i) := by
  intro k
  rw [rc_star hB, List.mem_map]
  constructor
  · rintro ⟨i, hi, rfl⟩
    rw [List.mem_range] at hi
    exact ⟨by omega, m, by omega, ((h m).mp hm).2⟩
  · rintro ⟨h1, k', h2, h3⟩
    have := hl k' ((h k').mpr ⟨by omega, h3⟩)
    exact ⟨k - m, by rw [List.mem_range]; omega, by omega⟩
theorem reach_star0 {S : List (Option Nat)} {B : List Bool} {T : List Nat} (h : Reach S B T []) (hB : B.length = S.length + 1) : Reach S (B.set S.length true) T [] := by
  intro k
  rw [rc_star hB]
  constructor
  · intro h; cases h
  · rintro ⟨h1, k', h2, h3⟩
    exact absurd ((h k').mpr ⟨by omega, h3⟩) List.not_mem_nil
theorem reach_push {S : List (Option Nat)} {B : List Bool} {T : List Nat} {ks : List Nat} {s : Option Nat} {p : Nat → Bool} (h : Reach S B T ks) (hB : B.length = S.length + 1) (hp : ∀ k, k ≤ T.length → p k = (decide (k < T.length) && mt s (T.getD k 0))) :
    Reach (S ++ [s]) (B ++ [false]) T ((ks.filter p).map (· + 1)) := by
  intro k
  rw [List.length_append, List.mem_map]
  show _ ↔ _ ∧ rc _ _ T k (S.length + 1) = true
  constructor
  · rintro ⟨i, hi, rfl⟩
    obtain ⟨h1, h2⟩ := List.mem_filter.mp hi
    obtain ⟨h3, h4⟩ := (h i).mp h1
    rw [hp i h3, Bool.and_eq_true, decide_eq_true_eq] at h2
    exact ⟨by omega, by rw [rc_push hB, h2.2, h4]; rfl⟩
  · rintro ⟨h1, h2⟩
    cases k with
    | zero => exact nomatch (show false = true from h2)
    | succ i =>
      rw [rc_push hB, Bool.and_eq_true] at h2
      exact ⟨i, List.mem_filter.mpr ⟨(h i).mpr ⟨by omega, h2.2⟩, by rw [hp i (by omega), decide_eq_true (by omega), h2.1]; rfl⟩, rfl⟩
/-- the number whose bits below m are those of p -/
def msk (p : Nat → Bool) : Nat → Nat
  | 0 => 0
  | m + 1 => if p m = true then msk p m ||| 2 ^ m else msk p m
theorem msk_bit (p : Nat → Bool) (i : Nat) : ∀ m, (msk p m).testBit i = (decide (i < m) && p i)
  | 0 => by rw [msk, Nat.zero_testBit]; simp
  | m + 1 => by
    have ih := msk_bit p i m
    rw [msk]
    by_cases e : i = m
    · subst e
      split
      · rename_i h; rw [Nat.testBit_or, Nat.testBit_two_pow_self, h]; simp
      · rename_i h; rw [ih]; simp [h]
    · have e2 : decide (i < m + 1) = decide (i < m) := decide_eq_decide.mpr (by omega)
      rw [e2, ← ih]
      split
      · rw [Nat.testBit_or, Nat.testBit_two_pow_of_ne (Ne.symm e), Bool.or_false]
      · rfl
def lk (S : List (Option Nat)) (B : List Bool) (T : List Nat) : Bool := rc S B T T.length S.length
theorem msk_step {S : List (Option Nat)} {B : List Bool} {T : List Nat} {k c : Nat} (hc : T.getD k 0 = c) :
    ((msk (rc S B T k) (S.length + 1) &&& msk (fun j => mt (S.getD j none) c) S.length) * 2 ^ 1) ||| (msk (rc S B T k) (S.length + 1) &&& msk (fun j => B.getD j false) (S.length + 1)) = msk (rc S B T (k + 1)) (S.length + 1) := by
  apply Nat.eq_of_testBit_eq
  intro i
  rw [← Nat.shiftLeft_eq, Nat.testBit_or, Nat.testBit_shiftLeft, Nat.testBit_and, Nat.testBit_and, msk_bit, msk_bit, msk_bit, msk_bit, msk_bit, rc_succ, hc]
  cases i with
  | zero => simp [Bool.and_comm]
  | succ i =>
    rw [show i + 1 - 1 = i from rfl]
    have e1 : decide (i + 1 ≥ 1) = true := decide_eq_true (by omega)
    have e2 : decide (i + 1 < S.length + 1) = decide (i < S.length) := decide_eq_decide.mpr (by omega)
    rw [e1, e2, decide_eq_true (Nat.succ_pos i)]
    by_cases h : i < S.length
    · rw [decide_eq_true h, decide_eq_true (show i < S.length + 1 by omega)]
      cases mt (S.getD i none) c <;> cases rc S B T k i <;> cases B.getD (i + 1) false <;> cases rc S B T k (i + 1) <;> rfl
    · rw [decide_eq_false h]
      simp
theorem msk_top {p : Nat → Bool} {m : Nat} : msk p (m + 1) / 2 ^ m = if p m = true then 1 else 0 := by
  rw [← Nat.shiftRight_eq_div_pow]
  apply Nat.eq_of_testBit_eq
  intro i
  rw [Nat.testBit_shiftRight, msk_bit]
  cases i with
  | zero =>
    rw [Nat.add_zero, decide_eq_true (show m < m + 1 by omega)]
    cases p m <;> rfl
  | succ i =>
    rw [decide_eq_false (show ¬ m + (i + 1) < m + 1 by omega), Bool.false_and]
    split
    · rw [Nat.testBit_succ]; simp
    · rw [Nat.zero_testBit]
theorem msk_lt (p : Nat → Bool) : ∀ m, msk p m < 2 ^ m
  | 0 => Nat.one_pos
  | m + 1 => by
    have ih := msk_lt p m
    have h2 : 2 ^ m < 2 ^ (m + 1) := Nat.pow_lt_pow_right (by decide) (by omega)
    rw [msk]
    split
    · exact Nat.or_lt_two_pow (by omega) h2
    · omega
theorem msk_zero {S : List (Option Nat)} {B : List Bool} {T : List Nat} {k : Nat} (h : msk (rc S B T k) (S.length + 1) = 0) : ∀ d j, j ≤ S.length → rc S B T (k + d) j = false
  | 0, j, hj => by
    have := msk_bit (rc S B T k) j (S.length + 1)
    rw [h, Nat.zero_testBit, decide_eq_true (by omega), Bool.true_and] at this
    exact this.symm
  | d + 1, j, hj => by
    rw [show k + (d + 1) = (k + d) + 1 by omega, rc_succ, msk_zero h d j hj, Bool.and_false, Bool.false_or, msk_zero h d (j - 1) (by omega), Bool.and_false, Bool.and_false]
theorem msk_start (S : List (Option Nat)) (B : List Bool) (T : List Nat) : ∀ m, msk (rc S B T 0) (m + 1) = 1
  | 0 => by rw [msk, msk]; rfl
  | m + 1 => by
    rw [msk, msk_start S B T m]
    rfl

/-! ### further words: while, enumerate, letters of a text, dicts that grow -/
theorem pip_of {X : Cx} {op : Operator} {r : TIp} (h : OpR X (inplaceOp op) r) : PIp X op r := h
section
variable {K : PySem.W.Frag} {σ : L2.St} {H : Hp} {D : Ends} {tz tb : TS} {te ta tl : TE} {c : TT} {x y z v : V}
theorem q_while (Pv : L2.St → Hp → Prop) (μ : L2.St → Hp → Nat) (h0 : Pv σ H)
    (hs : ∀ σ H, Pv σ H → ∃ b, EvT c σ H b ∧ ∀ H1, Ex H H1 → if b = true then tb { D with nx := fun σ' H' => Pv σ' H' ∧ μ σ' H' < μ σ H, ct := fun σ' H' => Pv σ' H' ∧ μ σ' H' < μ σ H, bk := tz D } σ H1 else tz D σ H1) : tSeq (tWhile c tb) tz D σ H := by
  refine ⟨fun m σ H => Pv σ H ∧ μ σ H ≤ m, ⟨_, h0, Nat.le_refl _⟩, fun m σ H p => ?_⟩
  obtain ⟨p, hm⟩ := p
  obtain ⟨b, hb, k⟩ := hs σ H p
  refine hb H (Ex.refl H) _ fun H2 e2 => ?_
  have k2 := k H2 e2
  cases b with
  | true =>
    rw [if_pos rfl] at k2 ⊢
    exact ⟨fun σ' H' => Pv σ' H' ∧ μ σ' H' < μ σ H, fun σ' H' q => ⟨μ σ' H', by omega, q.1, Nat.le_refl _⟩, k2⟩
  | false =>
    rw [if_neg (by decide)] at k2 ⊢
    exact k2
theorem q_aug {r : TIp} {i : Nat} (h0 : σ[i]? = some (some x)) (h : Ev te σ H y) (hr : RV r x y H z) (k : ∀ H1, Ex H H1 → tz D (σ.set i (some z)) H1) : tSeq (tAug i te r) tz D σ H :=
  ⟨x, h0, h H (Ex.refl H) _ fun H1 e1 => hr H1 e1 _ fun H2 e2 => k H2 (e1.trans e2)⟩
theorem s_aug {r : TIp} {i : Nat} (h0 : σ[i]? = some (some x)) (h : Ev te σ H y) (hr : RV r x y H z) (k : ∀ H1, Ex H H1 → D.nx (σ.set i (some z)) H1) : tAug i te r D σ H :=
  ⟨x, h0, h H (Ex.refl H) _ fun H1 e1 => hr H1 e1 _ fun H2 e2 => k H2 (e1.trans e2)⟩
theorem q_forE {g : TG} {tu : TS} {a : Addr} {xs : List V} {tr : TA} (h : EvA tr σ H [.ref a]) (Pv : Nat → L2.St → Hp → Prop) (h0 : ∀ H1, Ex H H1 → Pv 0 σ H1) (hS : SqL K H a xs)
    (hl : ∀ i σ' H', Pv i σ' H' → SqL K H' a xs)
    (hs : ∀ (i : Nat) (x : V) (T : Addr) σ' H', xs[i]? = some x → Pv i σ' H' → H' T = none → g (.ref T) σ' (upd H' T (.tup [.int (i : Int), x])) fun σ2 H2 => tu { nx := Pv (i + 1), rt := D.rt, bk := tz D, ct := Pv (i + 1) } σ2 H2)
    (hd : ∀ σ' H', Pv xs.length σ' H' → tz D σ' H') : tSeq (tFor (iEnum K tr) g tu) tz D σ H := by
  refine h H (Ex.refl H) _ fun H1 e1 => ⟨a, xs, rfl, ex_l e1 hS, fun i m σ' H' => Pv i σ' H' ∧ i ≤ xs.length ∧ xs.length - i ≤ m, ⟨_, h0 H1 e1, Nat.zero_le _, Nat.le_refl _⟩, fun i m σ' H' p => ?_⟩
  obtain ⟨p, hi, hm⟩ := p
  by_cases hlt : i < xs.length
  · refine .inr ⟨⟨xs, xs[i], hl _ _ _ p, List.getElem?_eq_getElem hlt⟩, fun σ2 H2 => Pv (i + 1) σ2 H2, fun σ2 H2 q => ⟨m - 1, by omega, q, hlt, by omega⟩, ?_⟩
    rintro x H2 ⟨T, y, rfl, hT, rfl, hx⟩
    exact hs i y T σ' H' (hx xs (hl _ _ _ p)) p hT
  · refine .inl ⟨⟨xs, hl _ _ _ p, by omega⟩, ?_⟩
    rw [show i = xs.length by omega] at p
    exact hd _ _ p
theorem s_forE {g : TG} {tu : TS} {a : Addr} {xs : List V} {tr : TA} (h : EvA tr σ H [.ref a]) (Pv : Nat → L2.St → Hp → Prop) (h0 : ∀ H1, Ex H H1 → Pv 0 σ H1) (hS : SqL K H a xs)
    (hl : ∀ i σ' H', Pv i σ' H' → SqL K H' a xs)
    (hs : ∀ (i : Nat) (x : V) (T : Addr) σ' H', xs[i]? = some x → Pv i σ' H' → H' T = none → g (.ref T) σ' (upd H' T (.tup [.int (i : Int), x])) fun σ2 H2 => tu { nx := Pv (i + 1), rt := D.rt, bk := D.nx, ct := Pv (i + 1) } σ2 H2)
    (hd : ∀ σ' H', Pv xs.length σ' H' → D.nx σ' H') : tFor (iEnum K tr) g tu D σ H := by
  refine h H (Ex.refl H) _ fun H1 e1 => ⟨a, xs, rfl, ex_l e1 hS, fun i m σ' H' => Pv i σ' H' ∧ i ≤ xs.length ∧ xs.length - i ≤ m, ⟨_, h0 H1 e1, Nat.zero_le _, Nat.le_refl _⟩, fun i m σ' H' p => ?_⟩
  obtain ⟨p, hi, hm⟩ := p
  by_cases hlt : i < xs.length
  · refine .inr ⟨⟨xs, xs[i], hl _ _ _ p, List.getElem?_eq_getElem hlt⟩, fun σ2 H2 => Pv (i + 1) σ2 H2, fun σ2 H2 q => ⟨m - 1, by omega, q, hlt, by omega⟩, ?_⟩
    rintro x H2 ⟨T, y, rfl, hT, rfl, hx⟩
    exact hs i y T σ' H' (hx xs (hl _ _ _ p)) p hT
  · refine .inl ⟨⟨xs, hl _ _ _ p, by omega⟩, ?_⟩
    rw [show i = xs.length by omega] at p
    exact hd _ _ p
theorem q_forX {tu : TS} {j : Nat} {w : List Nat} (h : Ev te σ H (.str (SX.S w))) (Pv : Nat → L2.St → Hp → Prop) (h0 : ∀ H1, Ex H H1 → Pv 0 σ H1)
    (hs : ∀ (i : Nat) (c : Nat) σ' H', w[i]? = some c → Pv i σ' H' → tu { nx := Pv (i + 1), rt := D.rt, bk := tz D, ct := Pv (i + 1) } (σ'.set j (some (.str ⟨#[c]⟩))) H')
    (hd : ∀ σ' H', Pv w.length σ' H' → tz D σ' H') : tSeq (tFor (iStr te) (gName j) tu) tz D σ H := by
  have ec : ∀ i, (SX.S w).cps[i]? = w[i]? := fun i => List.getElem?_toArray
  have es : (SX.S w).cps.size = w.length := List.size_toArray
  refine h H (Ex.refl H) _ fun H1 e1 => ⟨SX.S w, rfl, fun i m σ' H' => Pv i σ' H' ∧ i ≤ w.length ∧ w.length - i ≤ m, ⟨_, h0 H1 e1, Nat.zero_le _, Nat.le_refl _⟩, fun i m σ' H' p => ?_⟩
  obtain ⟨p, hi, hm⟩ := p
  by_cases hlt : i < w.length
  · refine .inr ⟨by show i < (SX.S w).cps.size; omega, fun σ2 H2 => Pv (i + 1) σ2 H2, fun σ2 H2 q => ⟨m - 1, by omega, q, hlt, by omega⟩, ?_⟩
    rintro x H2 ⟨rfl, c, hc, rfl⟩
    rw [ec] at hc
    exact hs i c σ' _ hc p
  · refine .inl ⟨by show (SX.S w).cps.size ≤ i; omega, ?_⟩
    rw [show i = w.length by omega] at p
    exact hd _ _ p
theorem q_callG {sp : Sp} {dvs vs : List V} {E : XK} {tr : TA} {g : TG} (h : EvA tr σ H vs) (k : ∀ H1, Ex H H1 → sp (vs ++ dvs) H1 (fun x H2 => g x σ H2 (tz D)) E) : tSeq (tAsg (tCall sp dvs E tr) g) tz D σ H := h H (Ex.refl H) _ fun H1 e1 => k H1 e1
theorem rv_or (a b : Nat) : RV (rI0 fun i j => .int (Builtin.bitOr i j)) (.int (a : Int)) (.int (b : Int)) H (.int ((a ||| b : Nat) : Int)) := by rw [← bor]; exact rv_I0
theorem rv_and (a b : Nat) : RV (rI0 fun i j => .int (Builtin.bitAnd i j)) (.int (a : Int)) (.int (b : Int)) H (.int ((a &&& b : Nat) : Int)) := by rw [← band]; exact rv_I0
theorem rv_shl (a b : Nat) (ha : a < 2 ^ 64) (hb : b ≤ 1000) : RV (rI CPow fun i j => .int (i * 2 ^ j.toNat)) (.int (a : Int)) (.int (b : Int)) H (.int ((a * 2 ^ b : Nat) : Int)) := by
  have e : ((a * 2 ^ b : Nat) : Int) = (a : Int) * 2 ^ ((b : Int)).toNat := by rw [Int.toNat_natCast]; simp
  rw [e]
  exact rv_I ⟨by omega, by omega, by omega⟩
theorem rv_shr (a b : Nat) : RV (rI (fun _ j => 0 ≤ j) fun i j => .int (i / 2 ^ j.toNat)) (.int (a : Int)) (.int (b : Int)) H (.int ((a / 2 ^ b : Nat) : Int)) := by
  have e : ((a / 2 ^ b : Nat) : Int) = (a : Int) / 2 ^ ((b : Int)).toNat := by rw [Int.toNat_natCast]; simp
  rw [e]
  exact rv_I (by omega)
theorem ixN_nat {n i : Nat} (h : i < n) : ixN n (i : Int) = some i := by
  unfold ixN
  rw [if_pos (by omega), if_pos (by omega), Int.toNat_natCast]
theorem s_put {ti to : TE} {p : Addr} {xs : List V} {i : Nat} (h : Ev te σ H v) (ho : Ev to σ H (.ref p)) (hi : Ev ti σ H (.int (i : Int))) (hp : H p = some (.lst xs)) (hl : i < xs.length) (k : ∀ H1, Ex H H1 → D.nx σ (upd H1 p (.lst (xs.set i v)))) : tAsg te (gSub to ti rSetL) D σ H :=
  h H (Ex.refl H) _ fun H1 e1 => ho H1 e1 _ fun H2 e2 => hi H2 (e1.trans e2) _ fun H3 e3 => ⟨p, xs, _, i, rfl, rfl, ((e1.trans e2).trans e3) _ _ hp, ixN_nat hl, k H3 ((e1.trans e2).trans e3)⟩
theorem put_len {κ : Type} [DecidableEq κ] (kvs : List (κ × V)) (k : κ) (v : V) : (putK kvs k v).length ≤ kvs.length + 1 := by
  unfold putK
  split
  · rw [List.length_map]; omega
  · rw [List.length_append]; exact Nat.le_refl _
theorem dget_str {d : Addr} {kvs : List (L2.Key × V)} {s : Str} (h : H d = some (.dK kvs)) : DGet H d (.str s) (valV kvs (Sum.inr s)) := .inl ⟨kvs, Sum.inr s, .inl h, rfl, rfl⟩
theorem ev_dnotin {d : Addr} {kvs : List (L2.Key × V)} {s : Str} (ha : Ev ta σ H (.str s)) (hb : Ev tl σ H (.ref d)) (h : H d = some (.dK kvs)) : Ev (tDNotIn ta tl) σ H (.bl (!(valV kvs (Sum.inr s)).isSome)) := fun H1 e Q q =>
  ha H1 e _ fun H2 e2 => hb H2 (e.trans e2) _ fun H3 e3 => ⟨d, _, rfl, dget_str (((e.trans e2).trans e3) _ _ h), q H3 (e2.trans e3)⟩
theorem ev_dget {d : Addr} {kvs : List (L2.Key × V)} {s : Str} (hb : Ev tl σ H (.ref d)) (ha : Ev ta σ H (.str s)) (h : H d = some (.dK kvs)) (hv : valV kvs (Sum.inr s) = some v) : Ev (tDGet tl ta) σ H v := fun H1 e Q q =>
  hb H1 e _ fun H2 e2 => ha H2 (e.trans e2) _ fun H3 e3 => ⟨d, v, rfl, hv ▸ dget_str (((e.trans e2).trans e3) _ _ h), q H3 (e2.trans e3)⟩
theorem s_dput {d : Addr} {kvs : List (L2.Key × V)} {s : Str} (hv : Ev te σ H v) (hb : Ev tl σ H (.ref d)) (ha : Ev ta σ H (.str s)) (h : H d = some (.dK kvs)) (hz : kvs.length ≤ 100000) (k : ∀ H1, Ex H H1 → D.nx σ (upd H1 d (.dK (putK kvs (Sum.inr s) v)))) : sDPut tl ta te D σ H :=
  hv H (Ex.refl H) _ fun H1 e1 => hb H1 e1 _ fun H2 e2 => ha H2 (e1.trans e2) _ fun H3 e3 => ⟨d, _, rfl, .inl ⟨kvs, Sum.inr s, ((e1.trans e2).trans e3) _ _ h, rfl, Nat.lt_of_le_of_lt hz (by decide), rfl⟩, k H3 ((e1.trans e2).trans e3)⟩
theorem q_dnew {i : Nat} (k : ∀ p, H p = none → tz D (σ.set i (some (.ref p))) (upd H p (.dK []))) : tSeq (tAsg tDNewK (gName i)) tz D σ H := fun p hp => k p hp
theorem ev_lenX {w : List Nat} (ha : Ev ta σ H (.str (SX.S w))) (hz : w.length ≤ 100000) : Ev (tCB (fun xs H Q => ∃ z, xs = [.str z] ∧ z.length ≤ sizeLine ∧ Q (.int z.length) H) (tCons ta tNil)) σ H (.int (w.length : Int)) :=
  ev_is (ev_lenS ha (by rw [SX.S_len]; exact hz)) (by rw [SX.S_len])
theorem rv_ixX {w : List Nat} {i c : Nat} (hz : w.length ≤ 100000) (h : w[i]? = some c) : RV rIxS (.str (SX.S w)) (.int (i : Int)) H (.str ⟨#[c]⟩) :=
  rv_ixS (by rw [SX.S_len]; exact hz) (atI_nat h)
end
theorem one_eq {c : Nat} {s : Str} {d : Nat} (h : s = SX.S [d]) : decide (V.str ⟨#[c]⟩ = V.str s) = decide (c = d) := by
  rw [h]
  refine decide_eq_decide.mpr ⟨fun e => ?_, fun e => e ▸ rfl⟩
  have e2 : SX.S [c] = SX.S [d] := V.str.inj e
  exact List.head_eq_of_cons_eq (SX.S_inj e2)
def signV : Option Nat → V
  | none => .non
  | some c => .str ⟨#[c]⟩
theorem par_len : ∀ (f : Nat) (l : List Nat) (S : List (Option Nat)) (B : List Bool), B.length = S.length + 1 → (par f l S B).2.length = (par f l S B).1.length + 1 ∧ (par f l S B).1.length ≤ S.length + l.length
  | 0, _, _, _, h => ⟨h, Nat.le_add_right _ _⟩
  | f + 1, [], _, _, h => ⟨h, Nat.le_add_right _ _⟩
  | f + 1, c :: r, S, B, h => by
    rw [par]
    have t : r.tail.length ≤ r.length := by rw [List.length_tail]; omega
    have p1 := fun s => par_len f r (S ++ [s]) (B ++ [false]) (by simp [h])
    have p2 := fun s => par_len f r.tail (S ++ [s]) (B ++ [false]) (by simp [h])
    have p3 := par_len f r S (B.set S.length true) (by rw [List.length_set]; exact h)
    simp only [List.length_append, List.length_cons, List.length_nil] at p1 p2 ⊢
    split
    · exact ⟨p3.1, by omega⟩
    split
    · exact ⟨(p1 none).1, by have := (p1 none).2; omega⟩
    split
    · exact ⟨(p2 _).1, by have := (p2 (some (r.headD 0))).2; omega⟩
    · exact ⟨(p1 _).1, by have := (p1 (some c)).2; omega⟩
theorem parL_len (L : List Nat) : (parL L 0 [] [false]).2.length = (parL L 0 [] [false]).1.length + 1 ∧ (parL L 0 [] [false]).1.length ≤ L.length := by
  have := par_len L.length (L.drop 0) [] [false] rfl
  rw [List.drop_zero] at this
  unfold parL
  rw [List.drop_zero]
  exact ⟨this.1, by have := this.2; simp at this; omega⟩
def like (T L : List Nat) : Bool := lk (parL L 0 [] [false]).1 (parL L 0 [] [false]).2 T
def sp__pattern_parts (K : PySem.W.Frag) : Sp := fun vs H Q _ => ∃ L : List Nat, vs = [.str (SX.S L)] ∧ L.length ≤ 40 ∧ ∀ H' p q r, Ex H H' → H' r = some (.tup [.ref p, .ref q]) → H' p = some (.lst ((parL L 0 [] [false]).1.map signV)) → H' q = some (.lst ((parL L 0 [] [false]).2.map V.bl)) → Q (.ref r) H'
def sp__places_of (K : PySem.W.Frag) : Sp := fun vs H Q _ => ∃ (p : Addr) (S : List (Option Nat)) (c : Nat), vs = [.ref p, .str ⟨#[c]⟩] ∧ SqL K H p (S.map signV) ∧ S.length ≤ 40 ∧ ∀ H', Ex H H' → Q (.int (msk (fun j => mt (S.getD j none) c) S.length : Nat)) H'
def sp_is_like (K : PySem.W.Frag) : Sp := fun vs H Q _ => ∃ T L : List Nat, vs = [.str (SX.S T), .str (SX.S L)] ∧ T.length ≤ 40 ∧ L.length ≤ 40 ∧ ∀ H', Ex H H' → Q (.bl (like T L)) H'
def at3 (σ : L2.St) : Nat := match σ[3]? with
  | some (some (V.int a)) => a.toNat
  | _ => 0

section
variable {P : Program} {w : World} {K : PySem.W.Frag} {mg : Str → Option Value} {base : Heap}
theorem ok__pattern_parts (D : Dn K mg "_pattern_parts" s__pattern_parts ["pattern"]) (z_len : mg "len" = none) :
    C8.Cal P w K mg base 1 "_pattern_parts" (sp__pattern_parts K) [] := by
  refine cal_of D sc__pattern_parts (fun vs H Q E h => ?_) (fun f cdv A outer s H vs Q E hr h => ?_)
  · obtain ⟨_, rfl, _⟩ := h
    rfl
  refine ⟨_, (pss_cons (ps_set (i := 1) sc__pattern_parts.nd rfl (.inl rfl) (pe_lst pa_nil))
    (pss_cons (ps_set (i := 2) sc__pattern_parts.nd rfl (.inl rfl) (pe_lst (pa_cons pe_bl pa_nil)))
    (pss_cons (ps_set (i := 3) sc__pattern_parts.nd rfl (.inl rfl) pe_int)
    (pss_cons (ps_while PassesOwn.never (pt_cmpR op_lt (pv 3) (pe_callB call_len_str (by rfl) z_len PySem.boot_len (pa_cons (pv 0) pa_nil)) (nomark _))
      (pss_cons (ps_set (i := 4) sc__pattern_parts.nd rfl (.inl rfl) (pe_ix ix_str (pv 0) (pv 3) (fun _ _ => rfl)))
    (Evl.pss_cut (ps_if (pt_cmpR op_eq (pv 4) pe_str (nomark _))
      (pss_one (ps_asg pe_bl (pg_sub (pv 2) (pe_callB call_len_seq (by rfl) z_len PySem.boot_len (pa_cons (pv 1) pa_nil)) set_list)))
      (Evl.pss_cut (ps_if (PW.pt (pw_and (pt_cmpR op_eq (pv 4) pe_str (nomark _)) (pw_and1 (pt_cmpR op_lt (pe_op op_add (pv 3) pe_int) (pe_callB call_len_str (by rfl) z_len PySem.boot_len (pa_cons (pv 0) pa_nil)) (nomark _)))))
      (pss_cons (ps_aug (i := 3) sc__pattern_parts.nd rfl (.inl rfl) pe_int ip_add)
    (pss_one (ps_expr (pe_bm PySem.F.plainAttrs_list PySem.F.slot_list_append PySem.F.type_list_append mt_append (pv 1) (pa_cons (pe_ix ix_str (pv 0) (pv 3) (fun _ _ => rfl)) pa_nil)))))
      (pss_one (ps_expr (pe_bm PySem.F.plainAttrs_list PySem.F.slot_list_append PySem.F.type_list_append mt_append (pv 1) (pa_cons (pe_ifExp (pt_cmpR op_eq (pv 4) pe_str (nomark _)) pe_non (pv 4)) pa_nil)))))
    (pss_one (ps_expr (pe_bm PySem.F.plainAttrs_list PySem.F.slot_list_append PySem.F.type_list_append mt_append (pv 2) (pa_cons pe_bl pa_nil))))))
    (pss_one (ps_aug (i := 3) sc__pattern_parts.nd rfl (.inl rfl) pe_int ip_add)))))
    (pss_one (ps_ret (pe_tup (pa_cons (pv 1) (pa_cons (pv 2) pa_nil))))))))), ?_⟩
  obtain ⟨L, rfl, hL, q⟩ := h
  refine q_asgL (el_lst ea_nil (by decide)) fun p H1 hp e1 h1 => ?_
  refine q_asgL (el_lst (ea_cons ev_c ea_nil) (by decide)) fun p2 H2 hp2 e2 h2 => ?_
  have hne : p2 ≠ p := fun e => by rw [e, h1] at hp2; exact nomatch hp2
  have hp2' : H p2 = none := fresh_back e1 hp2
  refine q_asg (v := .int 0) ev_c fun H3 e3 => ?_
  refine q_while (fun σ H' => ∃ (a : Nat) (S : List (Option Nat)) (B : List Bool) (y4 : Option V), σ = [some (.str (SX.S L)), some (.ref p), some (.ref p2), some (.int (a : Int)), y4] ∧ Ex H H' ∧ H' p = some (.lst (S.map signV)) ∧ H' p2 = some (.lst (B.map V.bl)) ∧ B.length = S.length + 1 ∧ S.length ≤ a ∧ a ≤ L.length ∧ parL L a S B = parL L 0 [] [false]) (fun σ _ => L.length - at3 σ)
    ⟨0, [], [false], none, rfl, (e1.trans e2).trans e3, e3 _ _ (e2 _ _ h1), e3 _ _ h2, rfl, Nat.le_refl _, Nat.zero_le _, rfl⟩ fun σ' H' hw => ?_
  obtain ⟨a, S, B, y4, rfl, x4, hS, hB, hBl, hSa, ha, hpar⟩ := hw
  refine ⟨decide ((a : Int) < (L.length : Int)), et_test (ev_op (ev_var rfl) (ev_lenX (ev_var rfl) (by omega)) rv_I0), fun H5 e5 => ?_⟩
  by_cases hlt : a < L.length
  · rw [decide_eq_true (show (a : Int) < (L.length : Int) by omega), if_pos rfl]
    obtain ⟨c, hc⟩ : ∃ c, L[a]? = some c := ⟨L[a], List.getElem?_eq_getElem hlt⟩
    refine q_asg (v := .str ⟨#[c]⟩) (ev_op (ev_var rfl) (ev_var rfl) (rv_ixX (by omega) hc)) fun H6 e6 => ?_
    have x6 := (x4.trans e5).trans e6
    have hS6 := e6 _ _ (e5 _ _ hS)
    have hB6 := e6 _ _ (e5 _ _ hB)
    rw [parL_at hc] at hpar
    refine q_cut (M := fun σ H' => ∃ (a' : Nat) (S' : List (Option Nat)) (B' : List Bool) (y : Option V), σ = [some (.str (SX.S L)), some (.ref p), some (.ref p2), some (.int (a' : Int)), y] ∧ Ex H H' ∧ H' p = some (.lst (S'.map signV)) ∧ H' p2 = some (.lst (B'.map V.bl)) ∧ B'.length = S'.length + 1 ∧ S'.length ≤ a' + 1 ∧ a' < L.length ∧ a ≤ a' ∧ parL L (a' + 1) S' B' = parL L 0 [] [false]) ?_ ?_
    · refine s_if (b := decide (V.str ⟨#[c]⟩ = V.str (PySem.Str.ofString "*"))) (by walk_at "et") (fun hb H7 e7 => ?_) (fun hb H7 e7 => ?_)
      · rw [one_eq (d := 42) (by decide +kernel)] at hb
        have hc42 : c = 42 := of_decide_eq_true hb
        rw [if_pos hc42] at hpar
        refine s_put (i := S.length) ev_c (ev_var rfl) (ev_is (ev_len (ev_var rfl) (sq_of (e7 _ _ hS6))) (by rw [List.length_map])) (e7 _ _ hB6) (by rw [List.length_map]; omega) fun H8 e8 => ⟨a, S, B.set S.length true, _, rfl, Ex.mut ((x6.trans e7).trans e8) hp2', ?_, ?_, by rw [List.length_set]; exact hBl, by omega, hlt, Nat.le_refl a, hpar⟩
        · rw [upd_ne hne.symm]
          exact e8 _ _ (e7 _ _ hS6)
        · rw [upd_same, List.map_set]
      · rw [one_eq (d := 42) (by decide +kernel)] at hb
        have hc42 : ¬ c = 42 := of_decide_eq_false hb
        rw [if_neg hc42] at hpar
        have x7 := x6.trans e7
        have hS7 := e7 _ _ hS6
        have hB7 := e7 _ _ hB6
        have hlS : (S.map signV).length < 100000 := by rw [List.length_map]; omega
        refine q_cut (M := fun σ H' => ∃ (a' : Nat) (s : Option Nat) (y : Option V), σ = [some (.str (SX.S L)), some (.ref p), some (.ref p2), some (.int (a' : Int)), y] ∧ Ex H H' ∧ H' p = some (.lst ((S ++ [s]).map signV)) ∧ H' p2 = some (.lst (B.map V.bl)) ∧ a' < L.length ∧ a ≤ a' ∧ parL L (a' + 1) (S ++ [s]) (B ++ [false]) = parL L 0 [] [false]) ?_ ?_
        · refine s_if (b := decide (V.str ⟨#[c]⟩ = V.str (PySem.Str.ofString "\\")) && decide ((a : Int) + 1 < (L.length : Int))) (et_and (by walk_at "et") fun _ => et_test (ev_op (ev_op (ev_var rfl) ev_c rv_I0) (ev_lenX (ev_var rfl) (by omega)) rv_I0)) (fun hb H8 e8 => ?_) (fun hb H8 e8 => ?_)
          · rw [one_eq (d := 92) (by decide +kernel), Bool.and_eq_true, decide_eq_true_eq, decide_eq_true_eq] at hb
            rw [if_neg (by omega), if_pos ⟨hb.1, by omega⟩] at hpar
            have hd : L[a + 1]? = some (L.getD (a + 1) 0) := by
              rw [List.getD_eq_getElem?_getD, List.getElem?_eq_getElem (by omega : a + 1 < L.length)] <;> rfl
            refine q_aug (x := .int (a : Int)) (y := .int 1) (z := .int ((a + 1 : Nat) : Int)) rfl ev_c (fun H9 e9 Q k => ⟨a, 1, rfl, rfl, k H9 (Ex.refl H9)⟩) fun H9 e9 => ?_
            refine s_app (e9 _ _ (e8 _ _ hS7)) (ev_var rfl) (ev_op (ev_var rfl) (ev_var rfl) (rv_ixX (by omega) hd)) hlS fun H10 e10 => ⟨a + 1, some (L.getD (a + 1) 0), _, rfl, Ex.mut (((x7.trans e8).trans e9).trans e10) hp, ?_, ?_, by omega, by omega, hpar⟩
            · rw [upd_same, List.map_append]
              rfl
            · rw [upd_ne hne]
              exact e10 _ _ (e9 _ _ (e8 _ _ hB7))
          · have h92 : ¬ (c = 92 ∧ a + 1 < L.length) := fun h => by
              rw [one_eq (d := 92) (by decide +kernel), decide_eq_true h.1, decide_eq_true (show (a : Int) + 1 < (L.length : Int) by omega)] at hb
              exact nomatch hb
            rw [if_neg h92] at hpar
            refine s_app (v := signV (if c = 63 then none else some c)) (e8 _ _ hS7) (ev_var rfl) (ev_if (b := decide (V.str ⟨#[c]⟩ = V.str (PySem.Str.ofString "?"))) (by walk_at "et") (fun hq => ev_is (v := .non) ev_c ?_) (fun hq => ev_is (v := .str ⟨#[c]⟩) (ev_var rfl) ?_)) hlS fun H10 e10 => ⟨a, if c = 63 then none else some c, _, rfl, Ex.mut ((x7.trans e8).trans e10) hp, ?_, ?_, hlt, Nat.le_refl a, ?_⟩
            · rw [one_eq (d := 63) (by decide +kernel)] at hq
              rw [if_pos (of_decide_eq_true hq)]
              rfl
            · rw [one_eq (d := 63) (by decide +kernel)] at hq
              rw [if_neg (of_decide_eq_false hq)]
              rfl
            · rw [upd_same, List.map_append]
              rfl
            · rw [upd_ne hne]
              exact e10 _ _ (e8 _ _ hB7)
            · rw [← hpar]
              split <;> rfl
        · intro σ'' H'' hm
          obtain ⟨a', s, y, rfl, x8, hS8, hB8, ha1, ha2, hpar2⟩ := hm
          refine s_app hB8 (ev_var rfl) ev_c (by rw [List.length_map]; omega) fun H9 e9 => ⟨a', S ++ [s], B ++ [false], _, rfl, Ex.mut (x8.trans e9) hp2', ?_, ?_, by simp [hBl], by simp; omega, ha1, ha2, hpar2⟩
          · rw [upd_ne hne.symm]
            exact e9 _ _ hS8
          · rw [upd_same, List.map_append]
            rfl
    · intro σ'' H'' hm
      obtain ⟨a', S', B', y, rfl, x8, hS8, hB8, hl8, hSa8, ha1, ha2, hpar2⟩ := hm
      refine s_aug (x := .int (a' : Int)) (y := .int 1) (z := .int ((a' + 1 : Nat) : Int)) rfl ev_c (fun H9 e9 Q k => ⟨a', 1, rfl, rfl, k H9 (Ex.refl H9)⟩) fun H9 e9 => ?_
      refine ⟨⟨a' + 1, S', B', _, rfl, x8.trans e9, e9 _ _ hS8, e9 _ _ hB8, hl8, by omega, by omega, hpar2⟩, ?_⟩
      show L.length - ((a' + 1 : Nat) : Int).toNat < L.length - ((a : Nat) : Int).toNat
      omega
  · rw [decide_eq_false (show ¬ (a : Int) < (L.length : Int) by omega), if_neg (by decide)]
    rw [parL_end (by omega)] at hpar
    have hS5 := e5 _ _ hS
    have hB5 := e5 _ _ hB
    refine s_retU (xs := [.ref p, .ref p2]) (eu_tup (ea_cons (ev_var rfl) (ea_cons (ev_var rfl) ea_nil)) (by show 2 ≤ 100000; decide)) fun r H7 hr e7 h7 => q _ p p2 r ((x4.trans e5).trans e7) h7 ?_ ?_
    · rw [← hpar]
      exact e7 _ _ hS5
    · rw [← hpar]
      exact e7 _ _ hB5
theorem ok__places_of (D : Dn K mg "_places_of" s__places_of ["signs", "wanted"]) (z_enumerate : mg "enumerate" = none) :
    C8.Cal P w K mg base 1 "_places_of" (sp__places_of K) [] := by
  refine cal_of D sc__places_of (fun vs H Q E h => ?_) (fun f cdv A outer s H vs Q E hr h => ?_)
  · obtain ⟨_, _, _, rfl, _⟩ := h
    rfl
  refine ⟨_, (pss_cons (ps_set (i := 2) sc__places_of.nd rfl (.inl rfl) pe_int)
    (pss_cons (ps_for PassesOwn.never rfl (pi_enum (by rfl) z_enumerate (pa_cons (pv 0) pa_nil)) (pg_tup rfl (pgs_cons (pg_name (i := 3) sc__places_of.nd rfl (.inl rfl)) (pgs_cons (pg_name (i := 4) sc__places_of.nd rfl (.inl rfl)) pgs_nil)))
      (pss_one (ps_if (PW.pt (pw_or (pt_cmpR op_isN (pv 4) pe_non (nomark _)) (pw_or1 (pt_cmpR op_eq (pv 4) (pv 1) (nomark _)))))
      (pss_one (ps_aug (i := 2) sc__places_of.nd rfl (.inl rfl) (pe_op op_shl pe_int (pv 3)) (pip_of iop_or)))
      pss_nil)))
    (pss_one (ps_ret (pv 2))))), ?_⟩
  obtain ⟨p, S, c, rfl, hS, hz, q⟩ := h
  refine q_asg (v := .int 0) ev_c fun H1 e1 => ?_
  refine q_forE (xs := S.map signV) (ea_cons (ev_var rfl) ea_nil) (fun i σ H' => ∃ y3 y4, σ = [some (.ref p), some (.str ⟨#[c]⟩), some (.int (msk (fun j => mt (S.getD j none) c) i : Nat)), y3, y4] ∧ Ex H H') (fun H2 e2 => ⟨none, none, rfl, e1.trans e2⟩) (ex_l e1 hS)
    (fun i σ' H' hw => by obtain ⟨_, _, _, x⟩ := hw; exact ex_l x hS) (fun i x T σ' H' hx hw hT => ?_) (fun σ' H' hw => ?_)
  · obtain ⟨y3, y4, rfl, x2⟩ := hw
    rw [List.getElem?_map] at hx
    obtain ⟨s, hs, rfl⟩ := Option.map_eq_some_iff.mp hx
    have hi := (List.getElem?_eq_some_iff.mp hs).1
    have hg : S.getD i none = s := by rw [List.getD_eq_getElem?_getD, hs] <;> rfl
    refine gt2 (st_of upd_same) ?_
    have x3 := x2.trans (Ex.new hT (o := .tup [.int (i : Int), signV s]))
    refine s_if (b := mt s c) ?_ (fun hb H3 e3 => ?_) (fun hb H3 e3 => ?_)
    · have e : mt s c = (decide (signV s = V.non) || decide (signV s = V.str ⟨#[c]⟩)) := by
        cases s with
        | none => rfl
        | some d =>
          show (d == c) = (decide (V.str ⟨#[d]⟩ = V.non) || decide (V.str ⟨#[d]⟩ = V.str ⟨#[c]⟩))
          rw [one_eq (s := ⟨#[c]⟩) (d := c) rfl, decide_eq_false (fun e => nomatch e), Bool.false_or]
          rfl
      rw [e]
      refine et_or (et_test (ev_op (ev_var rfl) ev_c rv_isN)) fun _ => et_test (ev_op (ev_var rfl) (ev_var rfl) (rv_eq ?_))
      cases s <;> rfl
    · refine s_aug (x := .int (msk (fun j => mt (S.getD j none) c) i : Nat)) (y := .int ((1 * 2 ^ i : Nat) : Int)) (z := .int (msk (fun j => mt (S.getD j none) c) (i + 1) : Nat)) rfl (ev_op (x := .int ((1 : Nat) : Int)) ev_c (ev_var rfl) (rv_shl 1 i (by decide) (by omega))) ?_ fun H4 e4 => ⟨_, _, rfl, (x3.trans e3).trans e4⟩
      have e : msk (fun j => mt (S.getD j none) c) (i + 1) = msk (fun j => mt (S.getD j none) c) i ||| 1 * 2 ^ i := by
        rw [msk, Nat.one_mul, hg, if_pos hb]
      rw [e]
      exact rv_or _ _
    · refine ⟨some (.int (i : Int)), some (signV s), ?_, x3.trans e3⟩
      have e : msk (fun j => mt (S.getD j none) c) (i + 1) = msk (fun j => mt (S.getD j none) c) i := by
        rw [msk, hg, if_neg (by rw [hb]; decide)]
      rw [e]
      rfl
  · obtain ⟨y3, y4, rfl, x2⟩ := hw
    rw [List.length_map]
    exact s_ret (ev_var rfl) fun H3 e3 => q _ (x2.trans e3)
theorem ec_places {σ : L2.St} {H : Hp} {ta tb : TE} {E : XK} {p : Addr} {S : List (Option Nat)} {c : Nat} (ha : Ev ta σ H (.ref p)) (hb : Ev tb σ H (.str ⟨#[c]⟩)) (hS : SqL K H p (S.map signV)) (hz : S.length ≤ 40) :
    Ev (tCall (sp__places_of K) [] E (tCons ta (tCons tb tNil))) σ H (.int (msk (fun j => mt (S.getD j none) c) S.length : Nat)) :=
  ev_call (ea_cons ha (ea_cons hb ea_nil)) fun H1 e Q q E => ⟨p, S, c, rfl, ex_l e hS, hz, q⟩
theorem no_str {n : Nat} {x : Option V} : valV ([] : List (L2.Key × V)) (Sum.inr (⟨#[n]⟩ : Str)) = x → x = none := fun h => h.symm
theorem nat_dec {x y : Nat} : decide (V.int (x : Int) = V.int (y : Int)) = decide (x = y) := decide_eq_decide.mpr ⟨fun e => by have := V.int.inj e; omega, fun e => by rw [e]⟩
theorem ok_is_like (D : Dn K mg "is_like" s_is_like ["text", "pattern"]) (c__pattern_parts : C8.Cal P w K mg base 1 "_pattern_parts" (sp__pattern_parts K) []) (c__places_of : C8.Cal P w K mg base 1 "_places_of" (sp__places_of K) []) (z_enumerate : mg "enumerate" = none) (z_len : mg "len" = none) :
    C8.Cal P w K mg base 2 "is_like" (sp_is_like K) [] := by
  refine cal_of D sc_is_like (fun vs H Q E h => ?_) (fun f cdv A outer s H vs Q E hr h => ?_)
  · obtain ⟨_, _, rfl, _⟩ := h
    rfl
  refine ⟨_, (pss_cons (ps_asg (C8.pe_c c__pattern_parts hr (by decide) (by rfl) (pa_cons (pv 1) pa_nil)) (pg_tup rfl (pgs_cons (pg_name (i := 2) sc_is_like.nd rfl (.inl rfl)) (pgs_cons (pg_name (i := 3) sc_is_like.nd rfl (.inl rfl)) pgs_nil))))
    (pss_cons (ps_set (i := 4) sc_is_like.nd rfl (.inl rfl) pe_int)
    (Evl.pss_cut (ps_for PassesOwn.never rfl (pi_enum (by rfl) z_enumerate (pa_cons (pv 3) pa_nil)) (pg_tup rfl (pgs_cons (pg_name (i := 5) sc_is_like.nd rfl (.inl rfl)) (pgs_cons (pg_name (i := 6) sc_is_like.nd rfl (.inl rfl)) pgs_nil)))
      (pss_one (ps_if (pt_val (pv 6))
      (pss_one (ps_aug (i := 4) sc_is_like.nd rfl (.inl rfl) (pe_op op_shl pe_int (pv 5)) (pip_of iop_or)))
      pss_nil)))
    (pss_cons (ps_set (i := 7) sc_is_like.nd rfl (.inl rfl) pe_dnewK)
    (pss_cons (ps_set (i := 8) sc_is_like.nd rfl (.inl rfl) pe_int)
    (pss_cons (ps_for PassesOwn.never rfl (pi_str (pv 0)) (pg_name (i := 9) sc_is_like.nd rfl (.inl rfl))
      (Evl.pss_cut (ps_if (pt_cmp (pc_dnotin (hu_of hr) (pv 9) (pv 7)))
      (pss_one (ps_dput (hu_of hr) (pv 7) (pv 9) (C8.pe_c c__places_of hr (by decide) (by rfl) (pa_cons (pv 2) (pa_cons (pv 9) pa_nil))) rfl))
      pss_nil)
    (pss_cons (ps_set (i := 8) sc_is_like.nd rfl (.inl rfl) (pe_op op_or (pe_op op_shl (pe_op op_and (pv 8) (pe_dget (hu_of hr) (pv 7) (pv 9) (fun _ _ => rfl))) pe_int) (pe_op op_and (pv 8) (pv 4))))
    (pss_one (ps_if (pt_cmpR op_eq (pv 8) pe_int (nomark _))
      (pss_one (ps_ret pe_bl))
      pss_nil)))))
    (pss_one (ps_ret (pe_cmpR op_eq (pe_op op_shr (pv 8) (pe_callB call_len_seq (by rfl) z_len PySem.boot_len (pa_cons (pv 2) pa_nil))) pe_int (nomark _)))))))))), ?_⟩
  obtain ⟨T, L, rfl, hT, hL, q⟩ := h
  obtain ⟨hBl, hSl⟩ := parL_len L
  refine q_callG (ea_cons (ev_var rfl) ea_nil) fun H1 e1 => ⟨L, rfl, hL, fun H2 p p2 r e2 h2 hS hB => gt2 (st_of h2) ?_⟩
  unfold like at q
  generalize (parL L 0 [] [false]).1 = S at *
  generalize (parL L 0 [] [false]).2 = B at *
  have x2 := e1.trans e2
  refine q_asg (v := .int 0) ev_c fun H3 e3 => ?_
  have hS3 := e3 _ _ hS
  have hB3 := e3 _ _ hB
  refine q_cut (M := fun σ H' => ∃ y5 y6, σ = [some (.str (SX.S T)), some (.str (SX.S L)), some (.ref p), some (.ref p2), some (.int (msk (fun j => B.getD j false) (S.length + 1) : Nat)), y5, y6, none, none, none] ∧ Ex H3 H') ?_ ?_
  · refine s_forE (xs := B.map V.bl) (ea_cons (ev_var rfl) ea_nil) (fun i σ H' => ∃ y5 y6, σ = [some (.str (SX.S T)), some (.str (SX.S L)), some (.ref p), some (.ref p2), some (.int (msk (fun j => B.getD j false) i : Nat)), y5, y6, none, none, none] ∧ Ex H3 H') (fun H4 e4 => ⟨none, none, rfl, e4⟩) (sq_of hB3)
      (fun i σ' H' hw => by obtain ⟨_, _, _, x⟩ := hw; exact ex_l x (sq_of hB3)) (fun i x T' σ' H' hx hw hT' => ?_) (fun σ' H' hw => ?_)
    · obtain ⟨y5, y6, rfl, x4⟩ := hw
      rw [List.getElem?_map] at hx
      obtain ⟨b, hb, rfl⟩ := Option.map_eq_some_iff.mp hx
      have hi := (List.getElem?_eq_some_iff.mp hb).1
      have hg : B.getD i false = b := by rw [List.getD_eq_getElem?_getD, hb] <;> rfl
      refine gt2 (st_of upd_same) ?_
      have x5 := x4.trans (Ex.new hT' (o := .tup [.int (i : Int), .bl b]))
      refine s_if (b := b) (et_B (ev_var rfl)) (fun hbt H5 e5 => ?_) (fun hbt H5 e5 => ?_)
      · refine s_aug (x := .int (msk (fun j => B.getD j false) i : Nat)) (y := .int ((1 * 2 ^ i : Nat) : Int)) (z := .int (msk (fun j => B.getD j false) (i + 1) : Nat)) rfl (ev_op (x := .int ((1 : Nat) : Int)) ev_c (ev_var rfl) (rv_shl 1 i (by decide) (by omega))) ?_ fun H6 e6 => ⟨_, _, rfl, (x5.trans e5).trans e6⟩
        have e : msk (fun j => B.getD j false) (i + 1) = msk (fun j => B.getD j false) i ||| 1 * 2 ^ i := by
          rw [msk, Nat.one_mul, hg, if_pos hbt]
        rw [e]
        exact rv_or _ _
      · refine ⟨some (.int (i : Int)), some (.bl b), ?_, x5.trans e5⟩
        have e : msk (fun j => B.getD j false) (i + 1) = msk (fun j => B.getD j false) i := by
          rw [msk, hg, if_neg (by rw [hbt]; decide)]
        rw [e]
        rfl
    · obtain ⟨y5, y6, rfl, x4⟩ := hw
      rw [List.length_map, hBl]
      exact ⟨_, _, rfl, x4⟩
  intro σ'' H4 hm
  obtain ⟨y5, y6, rfl, x4⟩ := hm
  refine q_dnew fun d hd => ?_
  have x5 : Ex H3 (upd H4 d (.dK [])) := x4.trans (Ex.new hd)
  have hd3 : H3 d = none := fresh_back x4 hd
  refine q_asg (v := .int 1) ev_c fun H6 e6 => ?_
  have x6 := (x2.trans e3)
  refine q_forX (ev_var rfl) (fun k σ H' => ∃ (kvs : List (L2.Key × V)) (y9 : Option V), σ = [some (.str (SX.S T)), some (.str (SX.S L)), some (.ref p), some (.ref p2), some (.int (msk (fun j => B.getD j false) (S.length + 1) : Nat)), y5, y6, some (.ref d), some (.int (msk (rc S B T k) (S.length + 1) : Nat)), y9] ∧ Ex H3 H' ∧ H' d = some (.dK kvs) ∧ kvs.length ≤ k ∧ ∀ (c : Nat) (v : V), valV kvs (Sum.inr (⟨#[c]⟩ : Str)) = some v → v = .int (msk (fun j => mt (S.getD j none) c) S.length : Nat))
    (fun H7 e7 => ⟨[], none, by rw [msk_start]; rfl, (x5.trans e6).trans e7, e7 _ _ (e6 _ _ upd_same), Nat.le_refl 0, fun c v h => by rw [valV_nil] at h; exact nomatch h⟩) (fun k c σ' H' hc hw => ?_) (fun σ' H' hw => ?_)
  · obtain ⟨kvs, y9, rfl, x7, hk, hlk, hinv⟩ := hw
    have hkT := (List.getElem?_eq_some_iff.mp hc).1
    have hTc : T.getD k 0 = c := by rw [List.getD_eq_getElem?_getD, hc] <;> rfl
    refine q_cut (M := fun σ H' => ∃ (kvs : List (L2.Key × V)), σ = [some (.str (SX.S T)), some (.str (SX.S L)), some (.ref p), some (.ref p2), some (.int (msk (fun j => B.getD j false) (S.length + 1) : Nat)), y5, y6, some (.ref d), some (.int (msk (rc S B T k) (S.length + 1) : Nat)), some (.str ⟨#[c]⟩)] ∧ Ex H3 H' ∧ H' d = some (.dK kvs) ∧ kvs.length ≤ k + 1 ∧ valV kvs (Sum.inr (⟨#[c]⟩ : Str)) = some (.int (msk (fun j => mt (S.getD j none) c) S.length : Nat)) ∧ ∀ (c : Nat) (v : V), valV kvs (Sum.inr (⟨#[c]⟩ : Str)) = some v → v = .int (msk (fun j => mt (S.getD j none) c) S.length : Nat)) ?_ ?_
    · refine s_if (et_B (ev_dnotin (ev_var rfl) (ev_var rfl) hk)) (fun hb H8 e8 => ?_) (fun hb H8 e8 => ?_)
      · refine s_dput (ec_places (ev_var rfl) (ev_var rfl) (ex_l (x7.trans e8) (sq_of hS3)) (by omega)) (ev_var rfl) (ev_var rfl) (e8 _ _ hk) (by omega) fun H9 e9 => ⟨_, rfl, Ex.mut ((x7.trans e8).trans e9) hd3, upd_same, ?_, ?_, ?_⟩
        · have := put_len kvs (Sum.inr (⟨#[c]⟩ : Str)) (V.int (msk (fun j => mt (S.getD j none) c) S.length : Nat))
          omega
        · rw [valV_put, if_pos rfl]
        · intro c' v hv
          rw [valV_put] at hv
          split at hv
          · rename_i e
            have e2 : c' = c := by
              have e3 : SX.S [c'] = SX.S [c] := Sum.inr.inj e
              exact List.head_eq_of_cons_eq (SX.S_inj e3)
            rw [e2]
            exact (Option.some.inj hv).symm
          · exact hinv c' v hv
      · refine ⟨kvs, rfl, x7.trans e8, e8 _ _ hk, by omega, ?_, hinv⟩
        cases hv : valV kvs (Sum.inr (⟨#[c]⟩ : Str)) with
        | none => rw [hv] at hb; exact nomatch hb
        | some v => rw [hinv c v hv]
    · intro σ''' H9 hm
      obtain ⟨kvs, rfl, x9, hk9, hlk9, hv9, hinv9⟩ := hm
      have hlt : msk (rc S B T k) (S.length + 1) &&& msk (fun j => mt (S.getD j none) c) S.length < 2 ^ 64 := by
        refine Nat.lt_of_le_of_lt Nat.and_le_left (Nat.lt_of_lt_of_le (msk_lt _ _) (Nat.pow_le_pow_right (by decide) (by omega)))
      refine q_asg (v := .int (msk (rc S B T (k + 1)) (S.length + 1) : Nat)) ?_ fun H10 e10 => ?_
      · rw [← msk_step hTc]
        exact ev_op (ev_op (ev_op (ev_var rfl) (ev_dget (ev_var rfl) (ev_var rfl) hk9 hv9) (rv_and _ _)) (y := .int ((1 : Nat) : Int)) ev_c (rv_shl _ 1 hlt (by decide))) (ev_op (ev_var rfl) (ev_var rfl) (rv_and _ _)) (rv_or _ _)
      refine s_if (b := decide (V.int ((msk (rc S B T (k + 1)) (S.length + 1) : Nat) : Int) = V.int ((0 : Nat) : Int))) (et_test (ev_op (ev_var rfl) ev_c (rv_eq rfl))) (fun hb H11 e11 => ?_) (fun hb H11 e11 => ⟨kvs, _, rfl, (x9.trans e10).trans e11, e11 _ _ (e10 _ _ hk9), hlk9, hinv9⟩)
      rw [nat_dec] at hb
      have hz := msk_zero (of_decide_eq_true hb) (T.length - (k + 1)) S.length (Nat.le_refl _)
      rw [show k + 1 + (T.length - (k + 1)) = T.length by omega] at hz
      have q2 := q
      unfold lk at q2
      rw [hz] at q2
      exact s_ret ev_c fun H12 e12 => q2 _ (x6.trans (((x9.trans e10).trans e11).trans e12))
  · obtain ⟨kvs, y9, rfl, x7, hk, hlk, hinv⟩ := hw
    refine s_ret (v := .bl (lk S B T)) ?_ fun H8 e8 => q _ (x6.trans (x7.trans e8))
    refine ev_is (v := .bl (decide (V.int ((msk (rc S B T T.length) (S.length + 1) / 2 ^ S.length : Nat) : Int) = V.int ((1 : Nat) : Int)))) (ev_op (ev_op (ev_var rfl) (ev_is (ev_len (ev_var rfl) (ex_l x7 (sq_of hS3))) (by rw [List.length_map])) (rv_shr _ _)) ev_c (rv_eq rfl)) ?_
    rw [nat_dec, msk_top]
    unfold lk
    cases rc S B T T.length S.length <;> rfl

end
/-! ### the law's own matching -/
def nv (k : Nat) : V := .int (k : Int)
theorem in_nv (n : Nat) : ∀ ks : List Nat, inV (.int (n : Int)) (ks.map nv) = decide (n ∈ ks)
  | [] => rfl
  | k :: r => by
    have ih := in_nv n r
    show (eqV (nv k) (.int (n : Int)) || inV (.int (n : Int)) (r.map nv)) = _
    rw [ih, show eqV (nv k) (.int (n : Int)) = ((k : Int) == (n : Int)) from rfl, Bool.eq_iff_iff, Bool.or_eq_true, beq_iff_eq, decide_eq_true_eq, decide_eq_true_eq, List.mem_cons]
    constructor
    · rintro (h | h)
      · exact .inl (by omega)
      · exact .inr h
    · rintro (h | h)
      · exact .inl (by omega)
      · exact .inr h
theorem flat_nv : ∀ ks : List Nat, (ks.map nv).all flatV = true
  | [] => rfl
  | k :: r => flat_nv r
theorem least : ∀ ks : List Nat, ks ≠ [] → ∃ m, m ∈ ks ∧ ∀ x ∈ ks, m ≤ x
  | [], h => absurd rfl h
  | k :: r, _ => by
    by_cases e : r = []
    · subst e
      exact ⟨k, List.mem_singleton.mpr rfl, fun x hx => by rw [List.mem_singleton.mp hx]; exact Nat.le_refl k⟩
    · obtain ⟨m, h1, h2⟩ := least r e
      by_cases hk : k ≤ m
      · refine ⟨k, List.mem_cons_self, fun x hx => ?_⟩
        rcases List.mem_cons.mp hx with h | h
        · rw [h]; exact Nat.le_refl k
        · exact Nat.le_trans hk (h2 x h)
      · refine ⟨m, List.mem_cons_of_mem k h1, fun x hx => ?_⟩
        rcases List.mem_cons.mp hx with h | h
        · omega
        · exact h2 x h
theorem range_get : ∀ ks : List Nat, (List.range ks.length).map (fun i => ks.getD i 0) = ks := by
  intro ks
  apply List.ext_getElem?
  intro i
  rw [List.getElem?_map]
  by_cases h : i < ks.length
  · rw [List.getElem?_range h, List.getElem?_eq_getElem h]
    show some (ks.getD i 0) = some ks[i]
    rw [List.getD_eq_getElem?_getD, List.getElem?_eq_getElem h] <;> rfl
  · rw [List.getElem?_eq_none (by rw [List.length_range]; omega), List.getElem?_eq_none (by omega)]
    rfl
theorem given_nv (ks : List Nat) (p : Nat → Bool) (f : Nat → Nat) : given ks.length (fun i => p (ks.getD i 0)) (fun i => nv (f (ks.getD i 0))) = ((ks.filter p).map f).map nv := by
  unfold given
  have e : ks.filter p = ((List.range ks.length).filter (fun i => p (ks.getD i 0))).map (fun i => ks.getD i 0) := by
    conv => lhs; rw [← range_get ks, List.filter_map]
    rfl
  rw [e, List.map_map, List.map_map]
  rfl
theorem cut_one (T : List Nat) (k : Nat) : cutS (SX.S T) (some (k : Int)) (some ((k : Int) + 1)) = SX.S ((T.drop k).take 1) := by
  unfold cutS
  have e1 : HT.sIx (SX.S T).length 0 (some (k : Int)) = min k T.length := by
    unfold HT.sIx
    rw [SX.S_len]
    show (if (k : Int) < 0 then _ else _) = _
    rw [if_neg (by omega), Int.toNat_natCast]
  have e2 : HT.sIx (SX.S T).length (SX.S T).length (some ((k : Int) + 1)) = min (k + 1) T.length := by
    unfold HT.sIx
    rw [SX.S_len]
    show (if (k : Int) + 1 < 0 then _ else _) = _
    rw [if_neg (by omega), show ((k : Int) + 1).toNat = k + 1 by omega]
  rw [e1, e2]
  show SX.S (List.take _ (List.drop _ T)) = _
  congr 1
  by_cases h : k < T.length
  · rw [Nat.min_eq_left (by omega), Nat.min_eq_left (by omega), show k + 1 - k = 1 by omega]
  · rw [Nat.min_eq_right (by omega), Nat.min_eq_right (by omega), Nat.sub_self, List.drop_eq_nil_of_le (show T.length ≤ k by omega), List.drop_eq_nil_of_le (Nat.le_refl _)]
    rfl
theorem cut_is (T : List Nat) (k c : Nat) : decide (V.str (cutS (SX.S T) (some (k : Int)) (some ((k : Int) + 1))) = V.str ⟨#[c]⟩) = (decide (k < T.length) && mt (some c) (T.getD k 0)) := by
  rw [cut_one, Bool.eq_iff_iff, Bool.and_eq_true, decide_eq_true_eq, decide_eq_true_eq]
  show _ ↔ _ ∧ (c == T.getD k 0) = true
  rw [beq_iff_eq]
  by_cases h : k < T.length
  · rw [List.drop_eq_getElem_cons h, List.getD_eq_getElem?_getD, List.getElem?_eq_getElem h]
    show V.str (SX.S [T[k]]) = V.str (SX.S [c]) ↔ k < T.length ∧ c = T[k]
    constructor
    · intro e
      exact ⟨h, (List.head_eq_of_cons_eq (SX.S_inj (V.str.inj e))).symm⟩
    · rintro ⟨_, rfl⟩
      rfl
  · rw [List.drop_eq_nil_of_le (by omega)]
    constructor
    · intro e
      have : SX.S [] = SX.S [c] := V.str.inj e
      exact nomatch (SX.S_inj this)
    · rintro ⟨h', _⟩
      exact absurd h' h
theorem cut_short (z : Str) {a : Int} (h : 0 ≤ a) : (cutS z (some a) (some (a + 1))).length ≤ 1 := by
  obtain ⟨k, rfl⟩ := Int.eq_ofNat_of_zero_le h
  rw [← SX.S_tl z, cut_one, SX.S_len, List.length_take]
  omega
theorem cat_len (a b : Str) : (a ++ b).length = a.length + b.length := by
  rw [← SX.S_tl a, ← SX.S_tl b, SX.S_cat, SX.S_len, SX.S_len, SX.S_len, List.length_append]
section
variable {K : PySem.W.Frag} {σ : L2.St} {H : Hp} {D : Ends} {te ta tl th tb : TE}
theorem ev_sl {z : Str} {lo hi : Int} (ha : Ev ta σ H (.str z)) (hl : Ev tl σ H (.int lo)) (hh : Ev th σ H (.int hi)) (hz : z.length ≤ 100000) : Ev (tSl rSlS ta (tPart tl) (tPart th)) σ H (.str (cutS z (some lo) (some hi))) := fun H1 e Q q =>
  ha H1 e _ fun H2 e2 => hl H2 (e.trans e2) _ fun H3 e3 => ⟨lo, rfl, hh H3 ((e.trans e2).trans e3) _ fun H4 e4 => ⟨hi, rfl, z, rfl, sz_of hz, q H4 ((e2.trans e3).trans e4)⟩⟩
theorem ev_cat {a b : Str} (ha : Ev ta σ H (.str a)) (hb : Ev tb σ H (.str b)) (h : a.length + b.length ≤ 100000) : Ev (tOp (fun x y H Q => ∃ i j, x = .str i ∧ y = .str j ∧ i.length + j.length ≤ sizeLine ∧ Q (.str (i ++ j)) H) ta tb) σ H (.str (a ++ b)) := fun H1 e Q q =>
  ha H1 e _ fun H2 e2 => hb H2 (e.trans e2) _ fun H3 e3 => ⟨a, b, rfl, rfl, sz_of h, q H3 (e2.trans e3)⟩
theorem ev_minL {p : Addr} {ks : List Nat} {m : Nat} (ha : Ev ta σ H (.ref p)) (hS : SqL K H p (ks.map nv)) (hm : m ∈ ks) (hl : ∀ x ∈ ks, m ≤ x) : Ev (tCB (rMin K) (tCons ta tNil)) σ H (.int (m : Int)) := fun H1 e Q q =>
  ha H1 e _ fun H2 e2 => ⟨p, ks.map fun k : Nat => (k : Int), rfl, by rw [List.map_map]; exact ex_l (e.trans e2) hS, by rw [List.length_map]; exact List.length_pos_of_mem hm, fun y hy hmin => by
    obtain ⟨x, hx, rfl⟩ := List.mem_map.mp hy
    have h1 := hmin (m : Int) (List.mem_map.mpr ⟨m, hm, rfl⟩)
    have h2 := hl x hx
    rw [show x = m by omega]
    exact q H2 e2⟩
theorem ev_inL {p : Addr} {ks : List Nat} {n : Nat} (ha : Ev ta σ H (.int (n : Int))) (hb : Ev tb σ H (.ref p)) (hS : SqL K H p (ks.map nv)) : Ev (tOp (rIn K false) ta tb) σ H (.bl (decide (n ∈ ks))) := fun H1 e Q q =>
  ha H1 e _ fun H2 e2 => hb H2 (e.trans e2) _ fun H3 e3 => ⟨p, ks.map nv, rfl, .inl (ex_l ((e.trans e2).trans e3) hS), rfl, flat_nv ks, by rw [if_neg (by decide), in_nv]; exact q H3 (e2.trans e3)⟩
end
def sp__law_matches (K : PySem.W.Frag) : Sp := fun vs H Q _ => ∃ T L : List Nat, vs = [.str (SX.S T), .str (SX.S L)] ∧ T.length ≤ 40 ∧ L.length ≤ 40 ∧ ∀ H', Ex H H' → Q (.bl (like T L)) H'
section
variable {P : Program} {w : World} {K : PySem.W.Frag} {mg : Str → Option Value} {base : Heap}
theorem ok__law_matches (D : Dn K mg "_law_matches" s__law_matches ["text", "pattern"]) (z_len : mg "len" = none) (z_min : mg "min" = none) (z_range : mg "range" = none) :
    C8.Cal P w K mg base 1 "_law_matches" (sp__law_matches K) [] := by
  refine cal_of D sc__law_matches (fun vs H Q E h => ?_) (fun f cdv A outer s H vs Q E hr h => ?_)
  · obtain ⟨_, _, rfl, _⟩ := h
    rfl
  refine ⟨_, (pss_cons (ps_set (i := 2) sc__law_matches.nd rfl (.inl rfl) (pe_lst (pa_cons pe_int pa_nil)))
    (pss_cons (ps_set (i := 3) sc__law_matches.nd rfl (.inl rfl) pe_int)
    (Evl.pss_cut (ps_for PassesOwn.never rfl (pi_range1 rfl z_range (pa_cons (pe_callB call_len_str (by rfl) z_len PySem.boot_len (pa_cons (pv 1) pa_nil)) pa_nil)) (pg_name (i := 4) sc__law_matches.nd rfl (.inl rfl))
      (pss_cons (ps_if (pt_cmpR op_ge (pv 3) (pe_callB call_len_str (by rfl) z_len PySem.boot_len (pa_cons (pv 1) pa_nil)) (nomark _))
      (pss_one ps_break)
      pss_nil)
    (pss_cons (ps_set (i := 5) sc__law_matches.nd rfl (.inr rfl) (pe_ix ix_str (pv 1) (pv 3) (fun _ _ => rfl)))
    (Evl.pss_cut (ps_if (pt_cmpR op_eq (pv 5) pe_str (nomark _))
      (pss_one (ps_if (pt_cmpR op_gt (pe_callB call_len_seq (by rfl) z_len PySem.boot_len (pa_cons (pv 2) pa_nil)) pe_int (nomark _))
      (pss_one (ps_setLc (i := 2) (own := [("k", 6)]) (g := gName 6) (tt := tYes) rfl sc__law_matches.nd rfl rfl (sw_true rfl rfl rfl (by decide +kernel)) (pi_range2 rfl z_range (pa_cons (pe_callB (cr_min rfl) (by rfl) z_min (by decide +kernel) (pa_cons (pv 2) pa_nil)) (pa_cons (pe_op op_add (pe_callB call_len_str (by rfl) z_len PySem.boot_len (pa_cons (pv 0) pa_nil)) pe_int) pa_nil))) (blkOk_by (N := n__law_matches) (sc := C8.fnScope s__law_matches) (by decide +kernel)) (fun _ _ _ _ _ => pg_name (i := 6) sc__law_matches.nd rfl (Or.inl rfl)) (fun _ _ _ _ _ => pts_nil) (fun _ _ _ _ _ => (pv 6))))
      pss_nil))
      (pss_one (ps_if (pt_cmpR op_eq (pv 5) pe_str (nomark _))
      (pss_one (ps_setLc (i := 2) (own := [("k", 6)]) (g := gName 6) rfl sc__law_matches.nd rfl rfl (sw_true rfl rfl rfl (by decide +kernel)) (pi_list (pv 2)) (blkOk_by (N := n__law_matches) (sc := C8.fnScope s__law_matches) (by decide +kernel)) (fun _ _ _ _ _ => pg_name (i := 6) sc__law_matches.nd rfl (Or.inl rfl)) (fun _ _ _ _ _ => (pts_one (pt_cmpR op_lt (pv 6) (pe_callB call_len_str (by rfl) z_len PySem.boot_len (pa_cons (pv 0) pa_nil)) (nomark _)))) (fun _ _ _ _ _ => (pe_op op_add (pv 6) pe_int))))
      (Evl.pss_cut (ps_if (PW.pt (pw_and (pt_cmpR op_eq (pv 5) pe_str (nomark _)) (pw_and1 (pt_cmpR op_lt (pe_op op_add (pv 3) pe_int) (pe_callB call_len_str (by rfl) z_len PySem.boot_len (pa_cons (pv 1) pa_nil)) (nomark _)))))
      (pss_cons (ps_set (i := 3) sc__law_matches.nd rfl (.inl rfl) (pe_op op_add (pv 3) pe_int))
    (pss_one (ps_set (i := 5) sc__law_matches.nd rfl (.inr rfl) (pe_ix ix_str (pv 1) (pv 3) (fun _ _ => rfl)))))
      pss_nil)
    (pss_one (ps_setLc (i := 2) (own := [("k", 6)]) (g := gName 6) rfl sc__law_matches.nd rfl rfl (sw_true rfl rfl rfl (by decide +kernel)) (pi_list (pv 2)) (blkOk_by (N := n__law_matches) (sc := C8.fnScope s__law_matches) (by decide +kernel)) (fun _ _ _ _ _ => pg_name (i := 6) sc__law_matches.nd rfl (Or.inl rfl)) (fun _ _ _ _ _ => (pts_one (pt_cmpR op_eq (pe_slice sl_str (pv 0) (po_some (pv 6)) (po_some (pe_op op_add (pv 6) pe_int))) (pv 5) (nomark _)))) (fun _ _ _ _ _ => (pe_op op_add (pv 6) pe_int))))))))
    (pss_one (ps_set (i := 3) sc__law_matches.nd rfl (.inl rfl) (pe_op op_add (pv 3) pe_int)))))))
    (pss_one (ps_ret (pe_cmpR op_in_seq (pe_callB call_len_str (by rfl) z_len PySem.boot_len (pa_cons (pv 0) pa_nil)) (pv 2) (by with_unfolding_all rfl))))))), ?_⟩
  obtain ⟨T, L, rfl, hT, hL, q⟩ := h
  refine q_asgL (xs := [0].map nv) (el_lst (ea_cons ev_c ea_nil) (by decide)) fun p H1 hp e1 h1 => ?_
  refine q_asg (v := .int 0) ev_c fun H2 e2 => ?_
  refine q_cut (M := fun σ H' => ∃ (r : Addr) (ks : List Nat) (y3 y4 y5 : Option V), σ = [some (.str (SX.S T)), some (.str (SX.S L)), some (.ref r), y3, y4, y5, none] ∧ Ex H H' ∧ H' r = some (.lst (ks.map nv)) ∧ Reach (parL L 0 [] [false]).1 (parL L 0 [] [false]).2 T ks) ?_ ?_
  · refine s_forR1 (n := (L.length : Int)) (ea_cons (ev_lenX (ev_var rfl) (by omega)) ea_nil) ⟨by omega, by omega⟩
      (fun i σ H' => ∃ (a : Nat) (r : Addr) (ks : List Nat) (S : List (Option Nat)) (B : List Bool) (y4 y5 : Option V), σ = [some (.str (SX.S T)), some (.str (SX.S L)), some (.ref r), some (.int (a : Int)), y4, y5, none] ∧ Ex H H' ∧ H' r = some (.lst (ks.map nv)) ∧ Reach S B T ks ∧ ks.length ≤ 60 ∧ B.length = S.length + 1 ∧ i ≤ a ∧ a ≤ L.length ∧ parL L a S B = parL L 0 [] [false])
      (fun H3 e3 => ⟨0, p, [0], [], [false], none, none, rfl, (e1.trans e2).trans e3, e3 _ _ (e2 _ _ h1), reach_0 T, by decide, rfl, Nat.le_refl 0, Nat.zero_le _, rfl⟩) (fun i σ' H' hi hw => ?_) (fun σ' H' hw => ?_)
    · obtain ⟨a, r, ks, S, B, y4, y5, rfl, x3, hr3, hR, hkl, hB, hia, ha, hpar⟩ := hw
      have hlen : ∀ k ∈ ks, k ≤ T.length := fun k hk => ((hR k).mp hk).1
      refine q_when (b := decide ((L.length : Int) ≤ (a : Int))) (et_test (ev_op (ev_var rfl) (ev_lenX (ev_var rfl) (by omega)) rv_I0)) (fun hb H4 e4 => ?_) (fun hb H4 e4 => ?_)
      · rw [parL_end (by have := of_decide_eq_true hb; omega)] at hpar
        exact ⟨r, ks, _, _, _, rfl, x3.trans e4, e4 _ _ hr3, by rw [← hpar]; exact hR⟩
      have hlt : a < L.length := by have := of_decide_eq_false hb; omega
      obtain ⟨c, hc⟩ : ∃ c, L[a]? = some c := ⟨L[a], List.getElem?_eq_getElem hlt⟩
      refine q_asg (v := .str ⟨#[c]⟩) (ev_op (ev_var rfl) (ev_var rfl) (rv_ixX (by omega) hc)) fun H5 e5 => ?_
      have x5 := (x3.trans e4).trans e5
      have hr5 := e5 _ _ (e4 _ _ hr3)
      rw [parL_at hc] at hpar
      refine q_cut (M := fun σ H' => ∃ (a' : Nat) (r : Addr) (ks : List Nat) (S : List (Option Nat)) (B : List Bool) (y5 : Option V), σ = [some (.str (SX.S T)), some (.str (SX.S L)), some (.ref r), some (.int (a' : Int)), some (.int (i : Int)), y5, none] ∧ Ex H H' ∧ H' r = some (.lst (ks.map nv)) ∧ Reach S B T ks ∧ ks.length ≤ 60 ∧ B.length = S.length + 1 ∧ a ≤ a' ∧ a' < L.length ∧ parL L (a' + 1) S B = parL L 0 [] [false]) ?_ ?_
      · refine s_if (b := decide (V.str ⟨#[c]⟩ = V.str (PySem.Str.ofString "*"))) (by walk_at "et") (fun hb H6 e6 => ?_) (fun hb H6 e6 => ?_)
        · rw [one_eq (d := 42) (by decide +kernel)] at hb
          rw [if_pos (of_decide_eq_true hb)] at hpar
          have hr6 := e6 _ _ hr5
          refine s_when (b := decide (0 < (((ks.map nv).length : Nat) : Int))) (et_test (ev_op (ev_len (ev_var rfl) (sq_of hr6)) ev_c rv_I0)) (fun hb2 H7 e7 => ?_) (fun hb2 H7 e7 => ?_)
          · rw [List.length_map] at hb2
            have hne : ks ≠ [] := fun e => by rw [e] at hb2; exact absurd (of_decide_eq_true hb2) (by decide)
            obtain ⟨m, hm, hl⟩ := least ks hne
            have hmT := hlen m hm
            refine s_asgL (xs := ((List.range (T.length + 1 - m)).map fun i => m + i).map nv) ?_ fun r2 H8 hr2 e8 h8 => ⟨a, r2, _, S, B.set S.length true, _, rfl, (x5.trans e6).trans (e7.trans e8), h8, reach_star hR hB hm hl, by rw [List.length_map, List.length_range]; omega, by rw [List.length_set]; exact hB, Nat.le_refl a, hlt, hpar⟩
            have e : ((List.range (T.length + 1 - m)).map fun i => m + i).map nv = (List.range (((T.length + 1 : Nat) : Int) - (m : Int)).toNat).map fun i : Nat => V.int ((m : Int) + (i : Int)) := by
              rw [List.map_map, show (((T.length + 1 : Nat) : Int) - (m : Int)).toNat = T.length + 1 - m by omega]
              apply List.map_congr_left
              intro x _
              show V.int ((m + x : Nat) : Int) = _
              rw [Int.natCast_add]
            rw [e]
            refine el_lcR2 (lo := (m : Int)) (n := ((T.length + 1 : Nat) : Int)) (fun i : Nat => V.int ((m : Int) + (i : Int))) (ea_cons (ev_minL (ev_var rfl) (sq_of (e7 _ _ hr6)) hm hl) (ea_cons (ev_is (ev_op (ev_lenX (ev_var rfl) (by omega)) ev_c rv_I0) (by rw [Int.natCast_add]; rfl)) ea_nil)) (by omega) (fun x => rfl) fun i H8 e8 hi => ev_var rfl
          · rw [List.length_map] at hb2
            have hn : ks = [] := List.eq_nil_of_length_eq_zero (by have := of_decide_eq_false hb2; omega)
            subst hn
            exact ⟨a, r, [], S, B.set S.length true, _, rfl, (x5.trans e6).trans e7, e7 _ _ hr6, reach_star0 hR hB, by decide, by rw [List.length_set]; exact hB, Nat.le_refl a, hlt, hpar⟩
        · rw [one_eq (d := 42) (by decide +kernel)] at hb
          have hc42 : ¬ c = 42 := of_decide_eq_false hb
          rw [if_neg hc42] at hpar
          have x6 := x5.trans e6
          have hr6 := e6 _ _ hr5
          refine s_if (b := decide (V.str ⟨#[c]⟩ = V.str (PySem.Str.ofString "?"))) (by walk_at "et") (fun hb3 H7 e7 => ?_) (fun hb3 H7 e7 => ?_)
          · rw [one_eq (d := 63) (by decide +kernel)] at hb3
            rw [if_pos (of_decide_eq_true hb3)] at hpar
            refine s_asgL (xs := ((ks.filter fun k : Nat => decide (k < T.length)).map (· + 1)).map nv) ?_ fun r2 H8 hr2 e8 h8 => ⟨a, r2, _, S ++ [none], B ++ [false], _, rfl, (x6.trans e7).trans e8, h8, reach_push hR hB (fun k hk => by rw [show mt none (T.getD k 0) = true from rfl, Bool.and_true]), by rw [List.length_map]; exact Nat.le_trans (List.length_filter_le _ _) hkl, by simp [hB], Nat.le_refl a, hlt, hpar⟩
            rw [← given_nv, show ks.length = (ks.map nv).length from (List.length_map nv).symm]
            refine el_lcL _ _ (ev_var rfl) (sq_of (e7 _ _ hr6)) (by rw [List.length_map]; omega) (fun x => rfl) (fun j x H8 e8 hx => ?_) (fun j x H8 e8 hx hj => ?_)
            · rw [List.getElem?_map] at hx
              obtain ⟨k, hk, rfl⟩ := Option.map_eq_some_iff.mp hx
              have hg : ks.getD j 0 = k := by rw [List.getD_eq_getElem?_getD, hk] <;> rfl
              rw [hg, show decide (k < T.length) = decide ((k : Int) < (T.length : Int)) from decide_eq_decide.mpr (by omega)]
              exact et_test (ev_op (ev_var rfl) (ev_lenX (ev_var rfl) (by omega)) rv_I0)
            · rw [List.getElem?_map] at hx
              obtain ⟨k, hk, rfl⟩ := Option.map_eq_some_iff.mp hx
              have hg : ks.getD j 0 = k := by rw [List.getD_eq_getElem?_getD, hk] <;> rfl
              rw [hg]
              exact ev_is (ev_op (ev_var rfl) ev_c rv_I0) (by show V.int ((k : Int) + 1) = V.int ((k + 1 : Nat) : Int); rw [Int.natCast_add]; rfl)
          · rw [one_eq (d := 63) (by decide +kernel)] at hb3
            have hc63 : ¬ c = 63 := of_decide_eq_false hb3
            rw [if_neg hc63] at hpar
            have x7 := x6.trans e7
            have hr7 := e7 _ _ hr6
            refine q_cut (M := fun σ H' => ∃ (a' c' : Nat), σ = [some (.str (SX.S T)), some (.str (SX.S L)), some (.ref r), some (.int (a' : Int)), some (.int (i : Int)), some (.str ⟨#[c']⟩), none] ∧ Ex H H' ∧ H' r = some (.lst (ks.map nv)) ∧ a ≤ a' ∧ a' < L.length ∧ parL L (a' + 1) (S ++ [some c']) (B ++ [false]) = parL L 0 [] [false]) ?_ ?_
            · refine s_when (b := decide (V.str ⟨#[c]⟩ = V.str (PySem.Str.ofString "\\")) && decide ((a : Int) + 1 < (L.length : Int))) (et_and (by walk_at "et") fun _ => et_test (ev_op (ev_op (ev_var rfl) ev_c rv_I0) (ev_lenX (ev_var rfl) (by omega)) rv_I0)) (fun hb H8 e8 => ?_) (fun hb H8 e8 => ?_)
              · rw [one_eq (d := 92) (by decide +kernel), Bool.and_eq_true, decide_eq_true_eq, decide_eq_true_eq] at hb
                rw [if_pos ⟨hb.1, by omega⟩] at hpar
                have hd : L[a + 1]? = some (L.getD (a + 1) 0) := by
                  rw [List.getD_eq_getElem?_getD, List.getElem?_eq_getElem (by omega : a + 1 < L.length)] <;> rfl
                refine q_asg (v := .int ((a + 1 : Nat) : Int)) (ev_is (ev_op (ev_var rfl) ev_c rv_I0) (by rw [Int.natCast_add]; rfl)) fun H9 e9 => ?_
                refine s_asg (ev_op (ev_var rfl) (ev_var rfl) (rv_ixX (by omega) hd)) fun H10 e10 => ⟨a + 1, L.getD (a + 1) 0, rfl, ((x7.trans e8).trans e9).trans e10, e10 _ _ (e9 _ _ (e8 _ _ hr7)), by omega, by omega, hpar⟩
              · have h92 : ¬ (c = 92 ∧ a + 1 < L.length) := fun h => by
                  rw [one_eq (d := 92) (by decide +kernel), decide_eq_true h.1, decide_eq_true (show (a : Int) + 1 < (L.length : Int) by omega)] at hb
                  exact nomatch hb
                rw [if_neg h92] at hpar
                exact ⟨a, c, rfl, x7.trans e8, e8 _ _ hr7, Nat.le_refl a, hlt, hpar⟩
            · intro σ'' H8 hm
              obtain ⟨a', c', rfl, x8, hr8, ha1, ha2, hpar2⟩ := hm
              refine s_asgL (xs := ((ks.filter fun k : Nat => decide (V.str (cutS (SX.S T) (some (k : Int)) (some ((k : Int) + 1))) = V.str ⟨#[c']⟩)).map (· + 1)).map nv) ?_ fun r2 H9 hr2 e9 h9 => ⟨a', r2, _, S ++ [some c'], B ++ [false], _, rfl, x8.trans e9, h9, reach_push hR hB (fun k hk => cut_is T k c'), by rw [List.length_map]; exact Nat.le_trans (List.length_filter_le _ _) hkl, by simp [hB], ha1, ha2, hpar2⟩
              rw [← given_nv, show ks.length = (ks.map nv).length from (List.length_map nv).symm]
              refine el_lcL _ _ (ev_var rfl) (sq_of hr8) (by rw [List.length_map]; omega) (fun x => rfl) (fun j x H9 e9 hx => ?_) (fun j x H9 e9 hx hj => ?_)
              · rw [List.getElem?_map] at hx
                obtain ⟨k, hk, rfl⟩ := Option.map_eq_some_iff.mp hx
                have hg : ks.getD j 0 = k := by rw [List.getD_eq_getElem?_getD, hk] <;> rfl
                rw [hg]
                exact et_test (ev_op (ev_sl (ev_var rfl) (ev_var rfl) (ev_op (ev_var rfl) ev_c rv_I0) (by rw [SX.S_len]; omega)) (ev_var rfl) (rv_eq rfl))
              · rw [List.getElem?_map] at hx
                obtain ⟨k, hk, rfl⟩ := Option.map_eq_some_iff.mp hx
                have hg : ks.getD j 0 = k := by rw [List.getD_eq_getElem?_getD, hk] <;> rfl
                rw [hg]
                exact ev_is (ev_op (ev_var rfl) ev_c rv_I0) (by show V.int ((k : Int) + 1) = V.int ((k + 1 : Nat) : Int); rw [Int.natCast_add]; rfl)
      · intro σ'' H6 hm
        obtain ⟨a', r', ks', S', B', y5', rfl, x6, hr6, hR6, hk6, hB6, ha1, ha2, hpar2⟩ := hm
        exact s_asg (v := .int ((a' + 1 : Nat) : Int)) (ev_is (ev_op (ev_var rfl) ev_c rv_I0) (by rw [Int.natCast_add]; rfl)) fun H7 e7 => ⟨a' + 1, r', ks', S', B', _, _, rfl, x6.trans e7, e7 _ _ hr6, hR6, hk6, hB6, by omega, by omega, hpar2⟩
    · obtain ⟨a, r, ks, S, B, y4, y5, rfl, x3, hr3, hR, hkl, hB, hia, ha, hpar⟩ := hw
      rw [Int.toNat_natCast] at hia
      rw [parL_end hia] at hpar
      exact ⟨r, ks, _, _, _, rfl, x3, hr3, by rw [← hpar]; exact hR⟩
  · intro σ' H3 hm
    obtain ⟨r, ks, y3, y4, y5, rfl, x3, hr3, hR⟩ := hm
    refine s_ret (v := .bl (decide (T.length ∈ ks))) (ev_inL (ev_lenX (ev_var rfl) (by omega)) (ev_var rfl) (sq_of hr3)) fun H4 e4 => ?_
    have e : decide (T.length ∈ ks) = like T L := by
      unfold like lk
      rw [Bool.eq_iff_iff, decide_eq_true_eq, hR]
      exact ⟨fun h => h.2, fun h => ⟨Nat.le_refl _, h⟩⟩
    rw [e]
    exact q _ (x3.trans e4)

end
def sp__law_pattern (K : PySem.W.Frag) : Sp := fun vs H Q _ => ∃ (n : Int) (T : List Nat), vs = [.int n, .str (SX.S T)] ∧ T.length ≤ 40 ∧ ∀ H' (z : Str), Ex H H' → z.length ≤ 18 → Q (.str z) H'
def sp_law (K : PySem.W.Frag) : Sp := fun vs H Q _ => ∃ (a : Addr) (ns : List Int), vs = [.ref a] ∧ SqL K H a (ns.map V.int) ∧ ns.length ≤ 63 ∧ ∀ H', Q (.bl true) H'
theorem sp_law_of {K : PySem.W.Frag} {H : Hp} {a : Addr} {ns : List Int} (hl : ns.length ≤ 63) (hS : SqL K H a (ns.map V.int)) : sp_law K [.ref a] H (fun v _ => v = .bl true) fun _ _ _ => False :=
  ⟨a, ns, rfl, hS, hl, fun _ => rfl⟩
section
variable {P : Program} {w : World} {K : PySem.W.Frag} {mg : Str → Option Value} {base : Heap}
theorem ok__law_pattern (D : Dn K mg "_law_pattern" s__law_pattern ["number", "text"]) (c__law_text : C8.Cal P w K mg base 1 "_law_text" (sp__law_text K) []) (z_int : mg "int" = none) (z_range : mg "range" = none) :
    C8.Cal P w K mg base 2 "_law_pattern" (sp__law_pattern K) [] := by
  refine cal_of D sc__law_pattern (fun vs H Q E h => ?_) (fun f cdv A outer s H vs Q E hr h => ?_)
  · obtain ⟨_, _, rfl, _⟩ := h
    rfl
  refine ⟨_, (pss_cons (ps_set (i := 2) sc__law_pattern.nd rfl (.inl rfl) pe_str)
    (pss_cons (ps_set (i := 3) sc__law_pattern.nd rfl (.inl rfl) pe_int)
    (pss_cons (ps_for PassesOwn.never rfl (pi_range1 rfl z_range (pa_cons (pe_op op_mod (pe_callTy call_int1 (by rfl) z_int (by decide +kernel) (pa_cons (pv 0) pa_nil)) pe_int) pa_nil)) (pg_name (i := 4) sc__law_pattern.nd rfl (.inl rfl))
      (pss_cons (ps_set (i := 0) sc__law_pattern.nd rfl (.inl rfl) (pe_op op_add (pe_op op_fdiv (pv 0) pe_int) pe_int))
    (pss_cons (ps_set (i := 5) sc__law_pattern.nd rfl (.inl rfl) (pe_op op_mod (pe_callTy call_int1 (by rfl) z_int (by decide +kernel) (pa_cons (pv 0) pa_nil)) pe_int))
    (Evl.pss_cut (ps_if (pt_cmpR op_le (pv 5) pe_int (nomark _))
      (pss_cons (ps_set (i := 2) sc__law_pattern.nd rfl (.inl rfl) (pe_op op_add_str (pv 2) pe_str))
    (pss_one (ps_set (i := 3) sc__law_pattern.nd rfl (.inl rfl) (pe_op op_add (pv 3) (pe_op op_mod (pe_op op_fdiv (pe_callTy call_int1 (by rfl) z_int (by decide +kernel) (pa_cons (pv 0) pa_nil)) pe_int) pe_int)))))
      (pss_one (ps_if (pt_cmpR op_eq (pv 5) pe_int (nomark _))
      (pss_cons (ps_set (i := 2) sc__law_pattern.nd rfl (.inl rfl) (pe_op op_add_str (pv 2) pe_str))
    (pss_one (ps_set (i := 3) sc__law_pattern.nd rfl (.inl rfl) (pe_op op_add (pv 3) pe_int))))
      (pss_one (ps_if (pt_cmpR op_eq (pv 5) pe_int (nomark _))
      (pss_cons (ps_set (i := 2) sc__law_pattern.nd rfl (.inl rfl) (pe_op op_add_str (pe_op op_add_str (pv 2) pe_str) (pe_slice sl_str (pv 1) (po_some (pv 3)) (po_some (pe_op op_add (pv 3) pe_int)))))
    (pss_one (ps_set (i := 3) sc__law_pattern.nd rfl (.inl rfl) (pe_op op_add (pv 3) pe_int))))
      (pss_one (ps_if (pt_cmpR op_le (pv 5) pe_int (nomark _))
      (pss_cons (ps_set (i := 2) sc__law_pattern.nd rfl (.inl rfl) (pe_op op_add_str (pv 2) (pe_slice sl_str (pv 1) (po_some (pv 3)) (po_some (pe_op op_add (pv 3) pe_int)))))
    (pss_one (ps_set (i := 3) sc__law_pattern.nd rfl (.inl rfl) (pe_op op_add (pv 3) pe_int))))
      (pss_one (ps_set (i := 2) sc__law_pattern.nd rfl (.inl rfl) (pe_op op_add_str (pv 2) (C8.pe_c c__law_text hr (by decide) (by rfl) (pa_cons (pv 0) (pa_cons pe_int pa_nil)))))))))))))
    (pss_one (ps_set (i := 0) sc__law_pattern.nd rfl (.inl rfl) (pe_op op_fdiv (pv 0) pe_int)))))))
    (pss_one (ps_ret (pv 2)))))), ?_⟩
  obtain ⟨n, T, rfl, hT, q⟩ := h
  refine q_asg ev_c fun H1 e1 => ?_
  refine q_asg (v := .int 0) ev_c fun H2 e2 => ?_
  have hm := Int.emod_nonneg n (show (10 : Int) ≠ 0 by decide)
  have hm2 := Int.emod_lt_of_pos n (show (0 : Int) < 10 by decide)
  refine q_forR1 (n := n % 10) (ea_cons (by walk_at "ev") ea_nil) ⟨hm, by omega⟩
    (fun i σ H' => ∃ (m a : Int) (z : Str) (y4 y5 : Option V), σ = [some (.int m), some (.str (SX.S T)), some (.str z), some (.int a), y4, y5] ∧ Ex H H' ∧ z.length ≤ 2 * i ∧ 0 ≤ a)
    (fun H3 e3 => ⟨n, 0, _, none, none, rfl, (e1.trans e2).trans e3, Nat.le_refl 0, by decide⟩) (fun i σ' H' hi hw => ?_) (fun σ' H' hw => ?_)
  · obtain ⟨m, a, z, y4, y5, rfl, x3, hz, ha⟩ := hw
    refine q_asg (v := .int (m / 10 + 5)) (by walk_at "ev") fun H4 e4 => ?_
    refine q_asg (v := .int ((m / 10 + 5) % 7)) (by walk_at "ev") fun H5 e5 => ?_
    have x5 := (x3.trans e4).trans e5
    have r0 := Int.emod_nonneg ((m / 10 + 5) / 7) (show (4 : Int) ≠ 0 by decide)
    have hcut := cut_short (SX.S T) ha
    have hsl : ∀ {H' : Hp} {y4 y5 : Option V} {z : Str} {m : Int}, Ev (tSl rSlS (tVar 1) (tPart (tVar 3)) (tPart (tOp (rI0 fun i j => V.int (i + j)) (tVar 3) (tC (.int 1))))) [some (.int m), some (.str (SX.S T)), some (.str z), some (.int a), y4, y5] H' (.str (cutS (SX.S T) (some a) (some (a + 1)))) := fun {_ _ _ _ _} => ev_sl (ev_var rfl) (ev_var rfl) (ev_op (ev_var rfl) ev_c rv_I0) (by rw [SX.S_len]; omega)
    refine q_cut (M := fun σ H' => ∃ (m a : Int) (z : Str) (y4 y5 : Option V), σ = [some (.int m), some (.str (SX.S T)), some (.str z), some (.int a), y4, y5] ∧ Ex H H' ∧ z.length ≤ 2 * i + 2 ∧ 0 ≤ a) ?_ ?_
    · refine s_if (b := decide ((m / 10 + 5) % 7 ≤ 1)) (by walk_at "et") (fun hb H6 e6 => ?_) (fun hb H6 e6 => ?_)
      · refine q_asg (ev_cat (ev_var rfl) ev_c (by show _ + 1 ≤ _; omega)) fun H7 e7 => ?_
        exact s_asg (v := .int (a + (m / 10 + 5) / 7 % 4)) (by walk_at "ev") fun H8 e8 => ⟨_, _, _, _, _, rfl, ((x5.trans e6).trans e7).trans e8, by rw [cat_len]; show _ + 1 ≤ _; omega, by omega⟩
      refine s_if (b := decide (V.int ((m / 10 + 5) % 7) = V.int 2)) (by walk_at "et") (fun hb H7 e7 => ?_) (fun hb H7 e7 => ?_)
      · refine q_asg (ev_cat (ev_var rfl) ev_c (by show _ + 1 ≤ _; omega)) fun H8 e8 => ?_
        exact s_asg (v := .int (a + 1)) (by walk_at "ev") fun H9 e9 => ⟨_, _, _, _, _, rfl, (((x5.trans e6).trans e7).trans e8).trans e9, by rw [cat_len]; show _ + 1 ≤ _; omega, by omega⟩
      refine s_if (b := decide (V.int ((m / 10 + 5) % 7) = V.int 3)) (by walk_at "et") (fun hb H8 e8 => ?_) (fun hb H8 e8 => ?_)
      · refine q_asg (ev_cat (ev_cat (ev_var rfl) ev_c (by show _ + 1 ≤ _; omega)) hsl (by rw [cat_len]; show _ + 1 + _ ≤ _; omega)) fun H9 e9 => ?_
        exact s_asg (v := .int (a + 1)) (by walk_at "ev") fun H10 e10 => ⟨_, _, _, _, _, rfl, ((((x5.trans e6).trans e7).trans e8).trans e9).trans e10, by rw [cat_len, cat_len]; show _ + 1 + _ ≤ _; omega, by omega⟩
      refine s_if (b := decide ((m / 10 + 5) % 7 ≤ 5)) (by walk_at "et") (fun hb H9 e9 => ?_) (fun hb H9 e9 => ?_)
      · refine q_asg (ev_cat (ev_var rfl) hsl (by omega)) fun H10 e10 => ?_
        exact s_asg (v := .int (a + 1)) (by walk_at "ev") fun H11 e11 => ⟨_, _, _, _, _, rfl, (((((x5.trans e6).trans e7).trans e8).trans e9).trans e10).trans e11, by rw [cat_len]; omega, by omega⟩
      · have h1 : (SX.S (lawT (m / 10 + 5) (1 : Int).toNat)).length = 1 := by rw [SX.S_len, lawT_len]; rfl
        exact s_asg (ev_cat (ev_var rfl) (ec_text (ev_var rfl) ev_c (by decide) (by decide)) (by rw [h1]; omega)) fun H10 e10 => ⟨_, _, _, _, _, rfl, ((((x5.trans e6).trans e7).trans e8).trans e9).trans e10, by rw [cat_len, h1]; omega, ha⟩
    · intro σ'' H6 hm
      obtain ⟨m', a', z', y4', y5', rfl, x6, hz6, ha6⟩ := hm
      exact s_asg (v := .int (m' / 7)) (by walk_at "ev") fun H7 e7 => ⟨_, _, _, _, _, rfl, x6.trans e7, by omega, ha6⟩
  · obtain ⟨m, a, z, y4, y5, rfl, x3, hz, ha⟩ := hw
    exact s_ret (ev_var rfl) fun H4 e4 => q _ _ (x3.trans e4) (by omega)
theorem ec_like {σ : L2.St} {H : Hp} {ta tb : TE} {E : XK} {T L : List Nat} (ha : Ev ta σ H (.str (SX.S T))) (hb : Ev tb σ H (.str (SX.S L))) (hT : T.length ≤ 40) (hL : L.length ≤ 40) : Ev (tCall (sp_is_like K) [] E (tCons ta (tCons tb tNil))) σ H (.bl (like T L)) :=
  ev_call (ea_cons ha (ea_cons hb ea_nil)) fun H1 e Q q E => ⟨T, L, rfl, hT, hL, q⟩
theorem ec_matches {σ : L2.St} {H : Hp} {ta tb : TE} {E : XK} {T L : List Nat} (ha : Ev ta σ H (.str (SX.S T))) (hb : Ev tb σ H (.str (SX.S L))) (hT : T.length ≤ 40) (hL : L.length ≤ 40) : Ev (tCall (sp__law_matches K) [] E (tCons ta (tCons tb tNil))) σ H (.bl (like T L)) :=
  ev_call (ea_cons ha (ea_cons hb ea_nil)) fun H1 e Q q E => ⟨T, L, rfl, hT, hL, q⟩
theorem ok_law {f : Addr} {fd : FuncData} (D : C8.Def K mg "law" s_law f fd) (c__law_matches : C8.Cal P w K mg base 1 "_law_matches" (sp__law_matches K) []) (c__law_numbers : C8.Cal P w K mg base 1 "_law_numbers" (sp__law_numbers K) []) (c__law_pattern : C8.Cal P w K mg base 2 "_law_pattern" (sp__law_pattern K) []) (c__law_text : C8.Cal P w K mg base 1 "_law_text" (sp__law_text K) []) (c_is_like : C8.Cal P w K mg base 2 "is_like" (sp_is_like K) []) (z_int : mg "int" = none) :
    FnOk P w K mg base C8.CX0 3 f fd ["script"] (sp_law K) := by
  refine C8.fn0 D.fn sc_law (fun vs H Q E h => ?_) (fun cdv A outer s H vs Q E hr h => ?_)
  · obtain ⟨_, _, rfl, _⟩ := h
    rfl
  refine ⟨_, (pss_cons (ps_set (i := 1) sc_law.nd rfl (.inl rfl) (C8.pe_c c__law_numbers hr (by decide) (by rfl) (pa_cons (pv 0) (pa_cons pe_int pa_nil))))
    (pss_cons (ps_set (i := 2) sc_law.nd rfl (.inl rfl) (C8.pe_c c__law_text hr (by decide) (by rfl) (pa_cons (pe_ix ix_list (pv 1) pe_int (fun _ _ => rfl)) (pa_cons (pe_op op_mod (pe_callTy call_int1 (by rfl) z_int (by decide +kernel) (pa_cons (pe_ix ix_list (pv 1) pe_int (fun _ _ => rfl)) pa_nil)) pe_int) pa_nil))))
    (pss_cons (ps_set (i := 3) sc_law.nd rfl (.inl rfl) (C8.pe_c c__law_pattern hr (by decide) (by rfl) (pa_cons (pe_ix ix_list (pv 1) pe_int (fun _ _ => rfl)) (pa_cons (pv 2) pa_nil))))
    (Evl.pss_cut (ps_if (pt_cmpR op_eq (pe_op op_mod (pe_callTy call_int1 (by rfl) z_int (by decide +kernel) (pa_cons (pe_ix ix_list (pv 1) pe_int (fun _ _ => rfl)) pa_nil)) pe_int) pe_int (nomark _))
      (pss_one (ps_set (i := 3) sc_law.nd rfl (.inl rfl) (pe_op op_add_str (pv 3) pe_str)))
      pss_nil)
    (Evl.pss_cut (ps_if (pt_cmpR op_eq (pe_op op_mod (pe_op op_fdiv (pe_callTy call_int1 (by rfl) z_int (by decide +kernel) (pa_cons (pe_ix ix_list (pv 1) pe_int (fun _ _ => rfl)) pa_nil)) pe_int) pe_int) pe_int (nomark _))
      (pss_one (ps_set (i := 3) sc_law.nd rfl (.inl rfl) (pe_op op_add_str (pv 3) pe_str)))
      pss_nil)
    (pss_cons (ps_if (pt_val (C8.pe_c c__law_matches hr (by decide) (by rfl) (pa_cons (pv 2) (pa_cons (pv 3) pa_nil))))
      (pss_one (ps_ret (pe_cmpR op_isTF (C8.pe_c c_is_like hr (by decide) (by rfl) (pa_cons (pv 2) (pa_cons (pv 3) pa_nil))) pe_bl (nomark _))))
      pss_nil)
    (pss_one (ps_ret (pe_cmpR op_isTF (C8.pe_c c_is_like hr (by decide) (by rfl) (pa_cons (pv 2) (pa_cons (pv 3) pa_nil))) pe_bl (nomark _)))))))))), ?_⟩
  obtain ⟨a, ns, rfl, hS, h63, q⟩ := h
  refine q_asgL (xs := (lawN ns 4).map V.int) (el_call (ea_cons (ev_var rfl) (ea_cons ev_c ea_nil)) fun H1 e Q q E => ⟨a, ns, 4, rfl, ex_l e hS, h63, by decide, q⟩) fun p1 H1 hp1 e1 h1 => ?_
  have g0 : ∀ {σ : L2.St} {H' : Hp}, σ[1]? = some (some (V.ref p1)) → Ex H1 H' → Ev (tOp (rIxL K) (tVar 1) (tC (.int 0))) σ H' (.int (cellN ns 0)) := fun hσ e => ev_op (ev_var hσ) ev_c (rv_ixL (sq_of (e _ _ h1)) (lawN_at (i := 0) (by decide)))
  have g1 : ∀ {σ : L2.St} {H' : Hp}, σ[1]? = some (some (V.ref p1)) → Ex H1 H' → Ev (tOp (rIxL K) (tVar 1) (tC (.int 1))) σ H' (.int (cellN ns 1)) := fun hσ e => ev_op (ev_var hσ) ev_c (rv_ixL (sq_of (e _ _ h1)) (lawN_at (i := 1) (by decide)))
  have g2 : ∀ {σ : L2.St} {H' : Hp}, σ[1]? = some (some (V.ref p1)) → Ex H1 H' → Ev (tOp (rIxL K) (tVar 1) (tC (.int 2))) σ H' (.int (cellN ns 2)) := fun hσ e => ev_op (ev_var hσ) ev_c (rv_ixL (sq_of (e _ _ h1)) (lawN_at (i := 2) (by decide)))
  have g3 : ∀ {σ : L2.St} {H' : Hp}, σ[1]? = some (some (V.ref p1)) → Ex H1 H' → Ev (tOp (rIxL K) (tVar 1) (tC (.int 3))) σ H' (.int (cellN ns 3)) := fun hσ e => ev_op (ev_var hσ) ev_c (rv_ixL (sq_of (e _ _ h1)) (lawN_at (i := 3) (by decide)))
  generalize cellN ns 0 = n0 at g0
  generalize cellN ns 1 = n1 at g1
  generalize cellN ns 2 = n2 at g2
  generalize cellN ns 3 = n3 at g3
  have r0 := Int.emod_nonneg n1 (show (15 : Int) ≠ 0 by decide)
  have r1 := Int.emod_lt_of_pos n1 (show (0 : Int) < 15 by decide)
  refine q_asg (ec_text (n := n0) (m := n1 % 15) (g0 rfl (Ex.refl _)) (ev_op (ev_int (g1 rfl (Ex.refl _))) ev_c (rv_I (by decide))) r0 (by omega)) fun H2 e2 => ?_
  have hTl : (lawT n0 (n1 % 15).toNat).length ≤ 14 := by rw [lawT_len]; omega
  generalize lawT n0 (n1 % 15).toNat = T at *
  refine q_callG (ea_cons (g2 rfl e2) (ea_cons (ev_var rfl) ea_nil)) fun H3 e3 => ⟨n2, T, rfl, by omega, fun H4 z e4 hz => ?_⟩
  have x4 := (e2.trans e3).trans e4
  show tCut _ _ _ [some (.ref a), some (.ref p1), some (.str (SX.S T)), some (.str z)] H4
  refine q_cut (M := fun σ H' => ∃ z : Str, σ = [some (.ref a), some (.ref p1), some (.str (SX.S T)), some (.str z)] ∧ Ex H1 H' ∧ z.length ≤ 19) ?_ ?_
  · refine s_when (b := decide (V.int (n3 % 5) = V.int 0)) (et_test (ev_op (ev_op (ev_int (g3 rfl x4)) ev_c (rv_I (by decide))) ev_c (rv_eq rfl))) (fun hb H5 e5 => ?_) (fun hb H5 e5 => ⟨z, rfl, x4.trans e5, by omega⟩)
    exact s_asg (ev_cat (ev_var rfl) ev_c (by show _ + 1 ≤ _; omega)) fun H6 e6 => ⟨_, rfl, (x4.trans e5).trans e6, by rw [cat_len]; show _ + 1 ≤ _; omega⟩
  intro σ' H5 hm
  obtain ⟨z5, rfl, x5, hz5⟩ := hm
  refine q_cut (M := fun σ H' => ∃ z : Str, σ = [some (.ref a), some (.ref p1), some (.str (SX.S T)), some (.str z)] ∧ Ex H1 H' ∧ z.length ≤ 20) ?_ ?_
  · refine s_when (b := decide (V.int (n3 / 5 % 3) = V.int 0)) (et_test (ev_op (ev_op (ev_op (ev_int (g3 rfl x5)) ev_c (rv_I ⟨by decide, by decide⟩)) ev_c (rv_I (by decide))) ev_c (rv_eq rfl))) (fun hb H6 e6 => ?_) (fun hb H6 e6 => ⟨z5, rfl, x5.trans e6, by omega⟩)
    exact s_asg (ev_cat (ev_var rfl) ev_c (by show _ + 1 ≤ _; omega)) fun H7 e7 => ⟨_, rfl, (x5.trans e6).trans e7, by rw [cat_len]; show _ + 1 ≤ _; omega⟩
  intro σ' H6 hm
  obtain ⟨z6, rfl, x6, hz6⟩ := hm
  have hzL : z6.cps.toList.length ≤ 40 := by
    have e := SX.S_len z6.cps.toList
    rw [SX.S_tl] at e
    rw [← e]
    omega
  rw [← SX.S_tl z6]
  generalize z6.cps.toList = L at *
  refine q_when (b := like T L) (et_B (ec_matches (ev_var rfl) (ev_var rfl) (by omega) hzL)) (fun hb H7 e7 => ?_) (fun hb H7 e7 => ?_)
  · refine s_ret (v := .bl true) ?_ fun H8 e8 => q H8
    exact ev_is (ev_op (ec_like (ev_var rfl) (ev_var rfl) (by omega) hzL) ev_c rv_isT) (by rw [hb]; rfl)
  · refine s_ret (v := .bl true) ?_ fun H8 e8 => q H8
    exact ev_is (ev_op (ec_like (ev_var rfl) (ev_var rfl) (by omega) hzL) ev_c rv_isT) (by rw [hb]; rfl)
end
theorem all_mk {P : Program} {w : World} {K : PySem.W.Frag} {h : Heap} {mg : Str → Option Value} {fa : Addr} (X : K.In h) (G : h.Ns mainGlobals mg) (hfa : mg "law" = some (.ref fa))
    {f0 : Addr} {od0 an0 : Option Addr} {sl0 : Array (Option Value)} {oc0 kV0 dc0 pm0 cd0 ct0 : Value} (a0 : PySem.W.nsIn K mainGlobals "_pattern_parts" = some (some (.ref f0))) (l0 : K.lookup f0 = some ⟨oc0, od0, .func (PySem.W.fnOf "_pattern_parts" "_pattern_parts" (C8.fnArgs s__pattern_parts) (C8.fnBody s__pattern_parts) (C8.fnScope s__pattern_parts) .none kV0 dc0 pm0 an0 cd0 ct0), sl0⟩) (b0 : PySem.W.codeIn K cd0 "_pattern_parts" = true) (k0 : PySem.W.keepIn K (.ref f0) = true)
    {f1 : Addr} {od1 an1 : Option Addr} {sl1 : Array (Option Value)} {oc1 kV1 dc1 pm1 cd1 ct1 : Value} (a1 : PySem.W.nsIn K mainGlobals "_places_of" = some (some (.ref f1))) (l1 : K.lookup f1 = some ⟨oc1, od1, .func (PySem.W.fnOf "_places_of" "_places_of" (C8.fnArgs s__places_of) (C8.fnBody s__places_of) (C8.fnScope s__places_of) .none kV1 dc1 pm1 an1 cd1 ct1), sl1⟩) (b1 : PySem.W.codeIn K cd1 "_places_of" = true) (k1 : PySem.W.keepIn K (.ref f1) = true)
    {f2 : Addr} {od2 an2 : Option Addr} {sl2 : Array (Option Value)} {oc2 kV2 dc2 pm2 cd2 ct2 : Value} (a2 : PySem.W.nsIn K mainGlobals "is_like" = some (some (.ref f2))) (l2 : K.lookup f2 = some ⟨oc2, od2, .func (PySem.W.fnOf "is_like" "is_like" (C8.fnArgs s_is_like) (C8.fnBody s_is_like) (C8.fnScope s_is_like) .none kV2 dc2 pm2 an2 cd2 ct2), sl2⟩) (b2 : PySem.W.codeIn K cd2 "is_like" = true) (k2 : PySem.W.keepIn K (.ref f2) = true)
    {f3 : Addr} {od3 an3 : Option Addr} {sl3 : Array (Option Value)} {oc3 kV3 dc3 pm3 cd3 ct3 : Value} (a3 : PySem.W.nsIn K mainGlobals "_law_numbers" = some (some (.ref f3))) (l3 : K.lookup f3 = some ⟨oc3, od3, .func (PySem.W.fnOf "_law_numbers" "_law_numbers" (C8.fnArgs s__law_numbers) (C8.fnBody s__law_numbers) (C8.fnScope s__law_numbers) .none kV3 dc3 pm3 an3 cd3 ct3), sl3⟩) (b3 : PySem.W.codeIn K cd3 "_law_numbers" = true) (k3 : PySem.W.keepIn K (.ref f3) = true)
    {f4 : Addr} {od4 an4 : Option Addr} {sl4 : Array (Option Value)} {oc4 kV4 dc4 pm4 cd4 ct4 : Value} (a4 : PySem.W.nsIn K mainGlobals "_law_text" = some (some (.ref f4))) (l4 : K.lookup f4 = some ⟨oc4, od4, .func (PySem.W.fnOf "_law_text" "_law_text" (C8.fnArgs s__law_text) (C8.fnBody s__law_text) (C8.fnScope s__law_text) .none kV4 dc4 pm4 an4 cd4 ct4), sl4⟩) (b4 : PySem.W.codeIn K cd4 "_law_text" = true) (k4 : PySem.W.keepIn K (.ref f4) = true)
    {f5 : Addr} {od5 an5 : Option Addr} {sl5 : Array (Option Value)} {oc5 kV5 dc5 pm5 cd5 ct5 : Value} (a5 : PySem.W.nsIn K mainGlobals "_law_pattern" = some (some (.ref f5))) (l5 : K.lookup f5 = some ⟨oc5, od5, .func (PySem.W.fnOf "_law_pattern" "_law_pattern" (C8.fnArgs s__law_pattern) (C8.fnBody s__law_pattern) (C8.fnScope s__law_pattern) .none kV5 dc5 pm5 an5 cd5 ct5), sl5⟩) (b5 : PySem.W.codeIn K cd5 "_law_pattern" = true) (k5 : PySem.W.keepIn K (.ref f5) = true)
    {f6 : Addr} {od6 an6 : Option Addr} {sl6 : Array (Option Value)} {oc6 kV6 dc6 pm6 cd6 ct6 : Value} (a6 : PySem.W.nsIn K mainGlobals "_law_matches" = some (some (.ref f6))) (l6 : K.lookup f6 = some ⟨oc6, od6, .func (PySem.W.fnOf "_law_matches" "_law_matches" (C8.fnArgs s__law_matches) (C8.fnBody s__law_matches) (C8.fnScope s__law_matches) .none kV6 dc6 pm6 an6 cd6 ct6), sl6⟩) (b6 : PySem.W.codeIn K cd6 "_law_matches" = true) (k6 : PySem.W.keepIn K (.ref f6) = true)
    {f7 : Addr} {od7 an7 : Option Addr} {sl7 : Array (Option Value)} {oc7 kV7 dc7 pm7 cd7 ct7 : Value} (a7 : PySem.W.nsIn K mainGlobals "law" = some (some (.ref f7))) (l7 : K.lookup f7 = some ⟨oc7, od7, .func (PySem.W.fnOf "law" "law" (C8.fnArgs s_law) (C8.fnBody s_law) (C8.fnScope s_law) .none kV7 dc7 pm7 an7 cd7 ct7), sl7⟩) (b7 : PySem.W.codeIn K cd7 "law" = true) (k7 : PySem.W.keepIn K (.ref f7) = true)
    (z_enumerate : PySem.W.nsIn K mainGlobals "enumerate" = some none)
    (z_int : PySem.W.nsIn K mainGlobals "int" = some none)
    (z_len : PySem.W.nsIn K mainGlobals "len" = some none)
    (z_min : PySem.W.nsIn K mainGlobals "min" = some none)
    (z_range : PySem.W.nsIn K mainGlobals "range" = some none)
    : ∃ fd : FuncData, (∀ (s : Shared) (v : Value), BindsTo s fd ⟨[v], []⟩ [("script", v)]) ∧ ∀ base : Heap, K.In base → base.Ns mainGlobals mg → FnOk P w K mg base C8.CX0 3 fa fd ["script"] (sp_law K) := by
  have D__pattern_parts : Dn K mg "_pattern_parts" s__pattern_parts ["pattern"] := dn_mk l0 b0 k0 (PySem.W.mg_of X G a0) (fun _ _ _ _ _ _ us hl => match us, hl with | [_], _ => rfl)
  have D__places_of : Dn K mg "_places_of" s__places_of ["signs", "wanted"] := dn_mk l1 b1 k1 (PySem.W.mg_of X G a1) (fun _ _ _ _ _ _ us hl => match us, hl with | [_, _], _ => rfl)
  have D_is_like : Dn K mg "is_like" s_is_like ["text", "pattern"] := dn_mk l2 b2 k2 (PySem.W.mg_of X G a2) (fun _ _ _ _ _ _ us hl => match us, hl with | [_, _], _ => rfl)
  have D__law_numbers : Dn K mg "_law_numbers" s__law_numbers ["script", "count"] := dn_mk l3 b3 k3 (PySem.W.mg_of X G a3) (fun _ _ _ _ _ _ us hl => match us, hl with | [_, _], _ => rfl)
  have D__law_text : Dn K mg "_law_text" s__law_text ["number", "size"] := dn_mk l4 b4 k4 (PySem.W.mg_of X G a4) (fun _ _ _ _ _ _ us hl => match us, hl with | [_, _], _ => rfl)
  have D__law_pattern : Dn K mg "_law_pattern" s__law_pattern ["number", "text"] := dn_mk l5 b5 k5 (PySem.W.mg_of X G a5) (fun _ _ _ _ _ _ us hl => match us, hl with | [_, _], _ => rfl)
  have D__law_matches : Dn K mg "_law_matches" s__law_matches ["text", "pattern"] := dn_mk l6 b6 k6 (PySem.W.mg_of X G a6) (fun _ _ _ _ _ _ us hl => match us, hl with | [_, _], _ => rfl)
  have y_enumerate : mg "enumerate" = none := PySem.W.mg_none_of X G z_enumerate
  have y_int : mg "int" = none := PySem.W.mg_none_of X G z_int
  have y_len : mg "len" = none := PySem.W.mg_none_of X G z_len
  have y_min : mg "min" = none := PySem.W.mg_none_of X G z_min
  have y_range : mg "range" = none := PySem.W.mg_none_of X G z_range
  have e := hfa.symm.trans (PySem.W.mg_of X G a7)
  cases e
  have D_law := def_mk (x := "law") (st := s_law) l7 b7 k7 hfa
  refine ⟨PySem.W.fnOf "law" "law" (C8.fnArgs s_law) (C8.fnBody s_law) (C8.fnScope s_law) .none kV7 dc7 pm7 an7 cd7 ct7, fun s v => .of_eq rfl, fun base _ _ => ?_⟩
  have c__pattern_parts := ok__pattern_parts (P := P) (w := w) (base := base) D__pattern_parts y_len 
  have c__places_of := ok__places_of (P := P) (w := w) (base := base) D__places_of y_enumerate 
  have c_is_like := ok_is_like (P := P) (w := w) (base := base) D_is_like c__pattern_parts c__places_of y_enumerate y_len 
  have c__law_numbers := ok__law_numbers (P := P) (w := w) (base := base) D__law_numbers y_int y_len y_range 
  have c__law_text := ok__law_text (P := P) (w := w) (base := base) D__law_text y_int y_range 
  have c__law_pattern := ok__law_pattern (P := P) (w := w) (base := base) D__law_pattern c__law_text y_int y_range 
  have c__law_matches := ok__law_matches (P := P) (w := w) (base := base) D__law_matches y_len y_min y_range 
  exact ok_law (P := P) (w := w) (base := base) D_law c__law_matches c__law_numbers c__law_pattern c__law_text c_is_like y_int 
end My
open PySem PySem.W PyProof.Rows
set_option maxHeartbeats 0 in
theorem PySem.Challenge.cw_stylobate_k07_patterns_holds : PySem.Challenge.rw_stylobate_k07_patterns.Holds := by
  w_on; o_law; k_head; (case hw => w_witness2)
  k_fill
  refine L2.walk_of (l := PySem.Challenge.rw_stylobate_k07_patterns) (n := 63) (k := 3) (x := "script") (CX := fun _ => C8.CX0) (sp := fun w => My.sp_law _) rfl (by decide) rfl ⟨rfl, by decide, by decide⟩ (fun w h Y => PySem.W.kIn_of Y) ?F (fun _ _ a ns hl _ hS => My.sp_law_of hl hS) (fun _ _ _ _ _ h => h)
  case F =>
    intro w mg fa h KX G hmg
    refine' My.all_mk KX G hmg ?a0 ?l0 ?b0 ?k0 ?a1 ?l1 ?b1 ?k1 ?a2 ?l2 ?b2 ?k2 ?a3 ?l3 ?b3 ?k3 ?a4 ?l4 ?b4 ?k4 ?a5 ?l5 ?b5 ?k5 ?a6 ?l6 ?b6 ?k6 ?a7 ?l7 ?b7 ?k7 ?z_enumerate ?z_int ?z_len ?z_min ?z_range
    (case a0 => k_is); (case l0 => k_is); (case b0 => k_is); (case k0 => k_is); (case a1 => k_is); (case l1 => k_is); (case b1 => k_is); (case k1 => k_is); (case a2 => k_is); (case l2 => k_is); (case b2 => k_is); (case k2 => k_is); (case a3 => k_is); (case l3 => k_is); (case b3 => k_is); (case k3 => k_is); (case a4 => k_is); (case l4 => k_is); (case b4 => k_is); (case k4 => k_is); (case a5 => k_is); (case l5 => k_is); (case b5 => k_is); (case k5 => k_is); (case a6 => k_is); (case l6 => k_is); (case b6 => k_is); (case k6 => k_is); (case a7 => k_is); (case l7 => k_is); (case b7 => k_is); (case k7 => k_is); (case z_enumerate => k_is); (case z_int => k_is); (case z_len => k_is); (case z_min => k_is); (case z_range => k_is)

