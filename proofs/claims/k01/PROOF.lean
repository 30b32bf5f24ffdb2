import PyProof.Rows.All
import Wide.All
import OpenK.AllK
import Wide.FinOn
import HandS.ForMost
import HandS.Codes
import HandS.Evl
import HandS.IsInst
import HandS.Wide
import HandS.SortKw
import HandS.TupLe
import PySem.Challenge.RW_stylobate_k01_order_of_values
set_option Elab.async false
set_option linter.all false
set_option maxRecDepth 100000
set_option maxHeartbeats 4000000
namespace My
open PySem PySem.Spec PyProof.Rows L2 Evl
/-! ### defs of the text, promises, the end -/
def Dn (K : PySem.W.Frag) (mg : Str → Option Value) (x : Str) (st : Stmt) (ps : List Str) : Prop := ∃ f fd, C8.Def K mg x st f fd ∧ Binds K fd ps []
section
variable {P : Program} {w : World} {K : PySem.W.Frag} {mg : Str → Option Value} {base : Heap}
theorem cal_of {x : Str} {st : Stmt} {N ps : List Str} {k : Nat} {sp : Sp} (D : Dn K mg x st ps) (S : FnScope N ps (C8.fnScope st)) (len : ∀ vs H Q E, sp vs H Q E → vs.length = ps.length)
    (hbody : ∀ (f : Addr) (cdv : Value) (A : Around) (outer : List Env) (s : Shared) (H : Hp) (vs : List V) (Q : VK) (E : XK), Room k (A.deeper (envOfC x (C8.fnScope st) s.heap.objs.size f cdv)) → sp vs H Q E →
      ∃ t, PSs (cxOf C8.CX0 P w K mg base N x (C8.fnScope st) f cdv A outer s H E).nox (C8.fnBody st) t ∧ t { nx := fun _ H' => Q .non H', rt := Q } (start N vs) H) : C8.Cal P w K mg base (k + 1) x sp [] := by
  obtain ⟨f, fd, F, b⟩ := D
  exact C8.cal0 F b .nil S len (hbody f)
theorem def_mk {x : Str} {st : Stmt} {f : Addr} {oc : Value} {od an : Option Addr} {osl : Array (Option Value)} {kV doc pm cdv ct : Value}
    (l : K.lookup f = some ⟨oc, od, .func (PySem.W.fnOf x x (C8.fnArgs st) (C8.fnBody st) (C8.fnScope st) .none kV doc pm an cdv ct), osl⟩)
    (c : PySem.W.codeIn K cdv x = true) (k : PySem.W.keepIn K (.ref f) = true) (m : mg x = some (.ref f)) : C8.Def K mg x st f (PySem.W.fnOf x x (C8.fnArgs st) (C8.fnBody st) (C8.fnScope st) .none kV doc pm an cdv ct) :=
  ⟨⟨oc, od, .none, kV, doc, pm, an, cdv, ct, osl, rfl, l, c⟩, m, k⟩
theorem dn_mk {x : Str} {st : Stmt} {f : Addr} {oc : Value} {od an : Option Addr} {osl : Array (Option Value)} {kV doc pm cdv ct : Value} {ps : List Str}
    (l : K.lookup f = some ⟨oc, od, .func (PySem.W.fnOf x x (C8.fnArgs st) (C8.fnBody st) (C8.fnScope st) .none kV doc pm an cdv ct), osl⟩)
    (c : PySem.W.codeIn K cdv x = true) (k : PySem.W.keepIn K (.ref f) = true) (m : mg x = some (.ref f))
    (h : ∀ (kV doc pm : Value) (an : Option Addr) (cdv ct : Value) (us : List Value), us.length = ps.length → bindArgs (PySem.W.fnOf x x (C8.fnArgs st) (C8.fnBody st) (C8.fnScope st) .none kV doc pm an cdv ct) ⟨us, []⟩ = pure (ps.zip us)) : Dn K mg x st ps :=
  ⟨f, _, def_mk l c k m, C8.Fun.binds (def_mk l c k m).fn rfl h⟩
end
/-! ### x is True, x is False, of any value -/
def rIsT : R2 := fun x y H Q => ∃ b : Bool, y = .bl b ∧ Q (.bl (decide (x = .bl b))) H
def rNotT : R2 := fun x y H Q => ∃ b : Bool, y = .bl b ∧ Q (.bl (!decide (x = .bl b))) H
section
variable {X : Cx}
theorem rel_bl {x : V} {v : Value} {b : Bool} (rx : RelV x v) : PySem.plainIs v (.bool b) = true ∧ (v == .bool b) = decide (x = .bl b) ∨ ∃ n, v = .builtin n := by
  cases x with
  | non => cases (show v = Value.none from rx); exact .inl ⟨rfl, rfl⟩
  | bl c => cases (show v = Value.bool c from rx); exact .inl ⟨rfl, by cases b <;> cases c <;> rfl⟩
  | int i => obtain ⟨t, e⟩ := (show ∃ t, v = Value.int i t from rx); cases e; exact .inl ⟨rfl, rfl⟩
  | str i => obtain ⟨t, e⟩ := (show ∃ t, v = Value.str i t from rx); cases e; exact .inl ⟨rfl, rfl⟩
  | byt i => obtain ⟨t, e⟩ := (show ∃ t, v = Value.bytes i t from rx); cases e; exact .inl ⟨rfl, rfl⟩
  | flt i => obtain ⟨t, e⟩ := (show ∃ t, v = Value.float i t from rx); cases e; exact .inl ⟨rfl, rfl⟩
  | ref a => cases (show v = Value.ref a from rx); exact .inl ⟨rfl, rfl⟩
  | ty n => cases (show v = Value.type n from rx); exact .inl ⟨rfl, rfl⟩
theorem rel_bl' {x : V} {v : Value} {b : Bool} (rx : RelV x v) : PySem.plainIs v (.bool b) = true ∧ (v == .bool b) = decide (x = .bl b) := by
  rcases rel_bl (b := b) rx with h | ⟨n, rfl⟩
  · exact h
  · cases x <;> first | exact nomatch (rx : Value.builtin n = _) | (obtain ⟨t, e⟩ := rx; exact nomatch e)
theorem op_isTF : OpR X (compareOp .Is) rIsT := by
  intro pins s σ H x y v u Q I rx ry h
  obtain ⟨b, rfl, q⟩ := h
  cases (show u = Value.bool b from ry)
  obtain ⟨h1, h2⟩ := rel_bl' (b := b) rx
  exact wpAny_is_plain h1 ⟨.bl _, H, I, rfl, by rw [h2]; exact q⟩
theorem op_notTF : OpR X (compareOp .IsNot) rNotT := by
  intro pins s σ H x y v u Q I rx ry h
  obtain ⟨b, rfl, q⟩ := h
  cases (show u = Value.bool b from ry)
  obtain ⟨h1, h2⟩ := rel_bl' (b := b) rx
  exact wpAny_isNot_plain h1 ⟨.bl _, H, I, rfl, by rw [h2]; exact q⟩
end
/-! ### what evaluates to what: further -/
section
variable {K : PySem.W.Frag} {σ : L2.St} {H H' : Hp} {ta tb te tx : TE} {t u : TT} {x y z v : V} {r : R2}
theorem rv_isT {b : Bool} : RV rIsT x (.bl b) H (.bl (decide (x = .bl b))) := fun H1 _ _ q => ⟨b, rfl, q H1 (Ex.refl H1)⟩
theorem rv_notT {b : Bool} : RV rNotT x (.bl b) H (.bl (!decide (x = .bl b))) := fun H1 _ _ q => ⟨b, rfl, q H1 (Ex.refl H1)⟩
theorem rv_isN : RV (fun x y H Q => y = .non ∧ Q (.bl (decide (x = .non))) H) x .non H (.bl (decide (x = .non))) := fun H1 _ _ q => ⟨rfl, q H1 (Ex.refl H1)⟩
theorem rv_notN : RV (fun x y H Q => y = .non ∧ Q (.bl (!decide (x = .non))) H) x .non H (.bl (!decide (x = .non))) := fun H1 _ _ q => ⟨rfl, q H1 (Ex.refl H1)⟩
theorem ev_int {i : Int} (h : Ev ta σ H (.int i)) : Ev (tCB (fun xs H Q => (∃ i, xs = [.int i] ∧ Q (.int i) H) ∨ ∃ k, xs = [.bl k] ∧ Q (.int (if k then 1 else 0)) H) (tCons ta tNil)) σ H (.int i) :=
  fun H1 e Q q => h H1 e _ fun H2 e2 => .inl ⟨i, rfl, q H2 e2⟩
theorem ev_intB {b : Bool} (h : Ev ta σ H (.bl b)) : Ev (tCB (fun xs H Q => (∃ i, xs = [.int i] ∧ Q (.int i) H) ∨ ∃ k, xs = [.bl k] ∧ Q (.int (if k then 1 else 0)) H) (tCons ta tNil)) σ H (.int (if b then 1 else 0)) :=
  fun H1 e Q q => h H1 e _ fun H2 e2 => .inr ⟨b, rfl, q H2 e2⟩
theorem ev_abs {i : Int} (h : Ev ta σ H (.int i)) : Ev (tCB (fun xs H Q => ∃ i, xs = [.int i] ∧ Q (.int (if i < 0 then -i else i)) H) (tCons ta tNil)) σ H (.int (if i < 0 then -i else i)) :=
  fun H1 e Q q => h H1 e _ fun H2 e2 => ⟨i, rfl, q H2 e2⟩
theorem ev_min2 {i j : Int} (ha : Ev ta σ H (.int i)) (hb : Ev tb σ H (.int j)) : Ev (tCB (fun xs H Q => ∃ i j, xs = [.int i, .int j] ∧ Q (.int (if j < i then j else i)) H) (tCons ta (tCons tb tNil))) σ H (.int (if j < i then j else i)) := fun H1 e Q q =>
  ha H1 e _ fun H2 e2 => hb H2 (e.trans e2) _ fun H3 e3 => ⟨i, j, rfl, q H3 (e2.trans e3)⟩
theorem ev_lenS {s : Str} (h : Ev ta σ H (.str s)) (hz : s.length ≤ 100000) : Ev (tCB (fun xs H Q => ∃ z, xs = [.str z] ∧ z.length ≤ sizeLine ∧ Q (.int z.length) H) (tCons ta tNil)) σ H (.int s.length) :=
  fun H1 e Q q => h H1 e _ fun H2 e2 => ⟨s, rfl, sz_of hz, q H2 e2⟩
/-- isinstance(x, T) of a plain value -/
def tyOf : V → String
  | .non => "NoneType"
  | .bl _ => "bool"
  | .int _ => "int"
  | .str _ => "str"
  | .byt _ => "bytes"
  | .flt _ => "float"
  | _ => "?"
def isTy (x : V) (T : String) : Bool := ((kitB (tyOf x) T).getD false)
theorem ev_isi {T : String} {tn : String} {b : Bool} (ha : Ev ta σ H x) (ht : ∀ H1, TyX K H1 x (.type tn)) (hk : kitB tn T = some b) : Ev (tCB (rIsi K) (tCons ta (tCons (tC (.ty T)) tNil))) σ H (.bl b) :=
  fun H1 e Q q => ha H1 e _ fun H2 e2 => ⟨x, .ty T, .type tn, .type T, b, rfl, .ty T, ht H2, kit_ty hk, q H2 e2⟩
theorem tx_int (i : Int) (H1 : Hp) : TyX K H1 (.int i) (.type "int") := .base (.int i)
theorem tx_bl (i : Bool) (H1 : Hp) : TyX K H1 (.bl i) (.type "bool") := .base (.bl i)
theorem tx_str (i : Str) (H1 : Hp) : TyX K H1 (.str i) (.type "str") := .base (.str i)
theorem tx_non (H1 : Hp) : TyX K H1 .non (.type "NoneType") := .base .non
section
variable {D : Ends} {tz : TS}
/-- if c: x = e, an int: told by the value x has behind it -/
theorem q_ifI {b : Bool} {i : Nat} {p q : Int} (h : EvT t σ H b) (h1 : b = true → Ev te σ H (.int p)) (h0 : σ[i]? = some (some (.int q))) (k : ∀ H1, Ex H H1 → tz D (σ.set i (some (.int (if b = true then p else q)))) H1) : tSeq (tIfS t (tAsg te (gName i)) tNext) tz D σ H := by
  refine q_ifAsg h (fun hb => ?_) (fun hb => ?_) k
  · rw [if_pos hb]
    exact h1 hb
  · rw [hb]
    show σ.set i (some (V.int q)) = σ
    apply List.ext_getElem?
    intro j
    rw [List.getElem?_set]
    split
    · rename_i e
      subst e
      rw [h0]
      have := (List.getElem?_eq_some_iff.mp h0).1
      rw [if_pos this]
    · rfl
end
/-- a promise of one value, all else as it was -/
theorem spv {sp : Sp} {vs : List V} (h : ∀ H1, Ex H H1 → ∀ Q : VK, (∀ H2, Ex H1 H2 → Q z H2) → ∀ E : XK, sp vs H1 Q E) : SpV sp vs H z := h
end
local macro_rules | `(tactic| walk_at "side") => `(tactic| first
  | exact .inr ⟨by decide, by decide⟩
  | exact .inl ⟨by decide, by decide⟩
  | exact .inl ⟨by omega, by omega⟩
  | exact .inr ⟨by omega, by omega⟩
  | exact ⟨by decide, by decide⟩
  | exact ⟨by omega, by omega⟩
  | decide
  | (show (_ : Int) < _; omega)
  | omega)
local macro_rules | `(tactic| walk_at "rv") => `(tactic| first
  | exact rv_I0
  | ((refine' rv_I ?k1); (case k1 => walk_at "side"))
  | exact rv_isT
  | exact rv_notT
  | exact rv_isN
  | exact rv_notN
  | exact rv_eq rfl
  | exact rv_ne rfl)
local macro_rules | `(tactic| walk_at "sq") => `(tactic| first | assumption | exact ex_l (by assumption) (by assumption) | exact sq_of (by assumption))
/-- what a part gives, read off its form -/
local macro_rules | `(tactic| walk_at "ev") => `(tactic| first
  | exact ev_var rfl
  | exact ev_c
  | ((with_reducible refine' ev_op ?k1 ?k2 ?k3); (case k1 => walk_at "ev"); (case k2 => walk_at "ev"); (case k3 => walk_at "rv"))
  | ((with_reducible refine' ev_un ?k1 ?k2); (case k1 => walk_at "ev"); (case k2 => exact ru_neg))
  | ((with_reducible refine' ev_int ?k1); (case k1 => walk_at "ev"))
  | ((with_reducible refine' ev_abs ?k1); (case k1 => walk_at "ev"))
  | ((with_reducible refine' ev_andV ?k1 ?k2); (case k1 => walk_at "ev"); (case k2 => intro _; walk_at "ev"))
  | ((with_reducible refine' ev_orV ?k1 ?k2); (case k1 => walk_at "ev"); (case k2 => intro _; walk_at "ev"))
  | ((with_reducible refine' ev_notV ?k1); (case k1 => walk_at "ev"))
  | ((refine' ev_len ?k1 ?k2); (case k1 => walk_at "ev"); (case k2 => walk_at "sq")))
local macro_rules | `(tactic| walk_at "et") => `(tactic| first
  | ((with_reducible refine' et_or ?k1 ?k2); (case k1 => walk_at "et"); (case k2 => intro _; walk_at "et"))
  | ((with_reducible refine' et_and ?k1 ?k2); (case k1 => walk_at "et"); (case k2 => intro _; walk_at "et"))
  | ((with_reducible refine' et_not ?k1); (case k1 => walk_at "et"))
  | (refine' et_test ?k1; (case k1 => walk_at "ev"))
  | (refine' et_B ?k1; (case k1 => walk_at "ev")))

/-! ### tuples made, tuples read, data compared -/
def SpU (sp : Sp) (vs : List V) (H : Hp) (xs : List V) : Prop := ∀ H1, Ex H H1 → ∀ Q : VK, (∀ p H2, H1 p = none → Ex H1 H2 → H2 p = some (.tup xs) → Q (.ref p) H2) → ∀ E : XK, sp vs H1 Q E
section
variable {K : PySem.W.Frag} {σ : L2.St} {H H' : Hp} {ta tb te : TE} {x y z v : V}
theorem eu_call {sp : Sp} {dvs vs xs : List V} {E : XK} {ta : TA} (h : EvA ta σ H vs) (hs : SpU sp (vs ++ dvs) H xs) : EvU (tCall sp dvs E ta) σ H xs := fun H1 e Q q =>
  h H1 e _ fun H2 e2 => hs H2 (e.trans e2) Q (fun p H3 hp e3 h3 => q p H3 (fresh_back e2 hp) (e2.trans e3) h3) E
theorem ev_lenT {p : Addr} {xs : List V} (ha : Ev ta σ H (.ref p)) (h : SqT K H p xs) : Ev (tCB (fun xs H Q => ∃ p ys, xs = [.ref p] ∧ (SqL K H p ys ∨ SqT K H p ys) ∧ Q (.int ys.length) H) (tCons ta tNil)) σ H (.int (xs.length : Int)) := fun H1 e Q q =>
  ha H1 e _ fun H2 e2 => ⟨p, xs, rfl, Or.inr (ex_t (e.trans e2) h), q H2 e2⟩
theorem eu_divmod {i j : Int} (ha : Ev ta σ H (.int i)) (hb : Ev tb σ H (.int j)) (hc : CDiv i j) :
    EvU (tCB (fun xs H Q => ∃ i j, xs = [.int i, .int j] ∧ CDiv i j ∧ ∀ p, H p = none → Q (.ref p) (upd H p (.tup [.int (i / j), .int (i % j)]))) (tCons ta (tCons tb tNil))) σ H [.int (i / j), .int (i % j)] := fun H1 e Q q =>
  ha H1 e _ fun H2 e2 => hb H2 (e.trans e2) _ fun H3 e3 => ⟨i, j, rfl, hc, fun p hp => q p _ (fresh_back (e2.trans e3) hp) ((e2.trans e3).trans (Ex.new hp)) upd_same⟩
theorem dp_ints : ∀ ns : List Int, DpAll K H (ns.map V.int) (ns.map PyData.int)
  | [] => .nil
  | n :: r => .cons (.int n) (dp_ints r)
theorem eqv_ints : ∀ ns ms : List Int, PyData.eqv (.tuple (ns.map PyData.int)) (.tuple (ms.map PyData.int)) = decide (ns = ms)
  | [], [] => rfl
  | [], _ :: _ => rfl
  | _ :: _, [] => rfl
  | n :: r, m :: t => by
    have ih := eqv_ints r t
    show ((n == m) && PyData.eqv (.tuple (r.map PyData.int)) (.tuple (t.map PyData.int))) = _
    rw [ih, Bool.eq_iff_iff, Bool.and_eq_true, decide_eq_true_eq, decide_eq_true_eq, beq_iff_eq, List.cons.injEq]
theorem dp_tup {p : Addr} {ns : List Int} (h : SqT K H p (ns.map V.int)) : Dp K H (.ref p) (.tuple (ns.map PyData.int)) := .tup h (dp_ints ns)
def shI (n : Nat) : Bool := SeqAt.shaped (.tuple ((List.replicate n 0).map PyData.int))
theorem rv_neT {p q : Addr} {ns ms : List Int} (hp : SqT K H p (ns.map V.int)) (hq : SqT K H q (ms.map V.int)) (s1 : SeqAt.shaped (.tuple (ns.map PyData.int)) = true) (s2 : SeqAt.shaped (.tuple (ms.map PyData.int)) = true) : RV (rNeD K) (.ref p) (.ref q) H (.bl (!decide (ns = ms))) := fun H1 e Q k =>
  ⟨_, _, dp_tup (ex_t e hp), dp_tup (ex_t e hq), s1, s2, by rw [eqv_ints]; exact k H1 (Ex.refl H1)⟩
theorem tx_tup {a : Addr} {xs : List V} (h : H a = some (.tup xs)) : ∀ H1, Ex H H1 → TyX K H1 (.ref a) (.type "tuple") := fun H1 e => .base (.tup (e _ _ h))
theorem ev_isi' {T : String} {tn : String} {b : Bool} (ha : Ev ta σ H x) (ht : ∀ H1, Ex H H1 → TyX K H1 x (.type tn)) (hk : kitB tn T = some b) : Ev (tCB (rIsi K) (tCons ta (tCons (tC (.ty T)) tNil))) σ H (.bl b) :=
  fun H1 e Q q => ha H1 e _ fun H2 e2 => ⟨x, .ty T, .type tn, .type T, b, rfl, .ty T, ht H2 (e.trans e2), kit_ty hk, q H2 e2⟩
theorem ev_chain {r r' : R2} {tc : TE} {b c : Bool} (ha : Ev ta σ H x) (hb : Ev tb σ H y) (hr : RV r x y H (.bl b)) (hc : b = true → Ev tc σ H z) (hr' : b = true → RV r' y z H (.bl c)) : Ev (tChain r r' ta tb tc) σ H (.bl (b && c)) := fun H1 e Q q =>
  ha H1 e _ fun H2 e2 => hb H2 (e.trans e2) _ fun H3 e3 => hr H3 ((e.trans e2).trans e3) _ fun H4 e4 => ⟨b, rfl, by
    cases b with
    | true =>
      show tc σ H4 fun w' H5 => r' y w' H5 Q
      exact hc rfl H4 (((e.trans e2).trans e3).trans e4) _ fun H5 e5 => hr' rfl H5 ((((e.trans e2).trans e3).trans e4).trans e5) Q fun H6 e6 => q H6 ((((e2.trans e3).trans e4).trans e5).trans e6)
    | false =>
      show Q (.bl false) H4
      exact q H4 ((e2.trans e3).trans e4)⟩
/-- a, b = (..): a new tuple unpacked into names -/
theorem gt2 {p : Addr} {i j : Nat} (h : SqT K H p [x, y]) {Q : L2.St → Hp → Prop} (k : Q ((σ.set i (some x)).set j (some y)) H) : gTup K 2 (gCons (gName i) (gCons (gName j) gNil)) (.ref p) σ H Q :=
  ⟨p, [x, y], rfl, h, rfl, x, [y], rfl, y, [], rfl, rfl, k⟩
theorem gt3 {p : Addr} {i j l : Nat} (h : SqT K H p [x, y, z]) {Q : L2.St → Hp → Prop} (k : Q (((σ.set i (some x)).set j (some y)).set l (some z)) H) : gTup K 3 (gCons (gName i) (gCons (gName j) (gCons (gName l) gNil))) (.ref p) σ H Q :=
  ⟨p, [x, y, z], rfl, h, rfl, x, [y, z], rfl, y, [z], rfl, z, [], rfl, rfl, k⟩
end
theorem hu64 {A : Around} {k : Nat} (hr : Room k A) : A.units + 64 < cLine := by
  have := hr.un
  omega
section
variable {K : PySem.W.Frag} {σ : L2.St} {H : Hp} {te : TE} {D : Ends} {tz : TS} {g : TG} {xs : List V}
theorem q_asgG (h : EvU te σ H xs) (k : ∀ p H1, H p = none → Ex H H1 → H1 p = some (.tup xs) → g (.ref p) σ H1 (tz D)) : tSeq (tAsg te g) tz D σ H := h H (Ex.refl H) _ fun p H1 hp e h1 => k p H1 hp e h1
theorem q_asgV {v : V} (h : Ev te σ H v) (k : ∀ H1, Ex H H1 → g v σ H1 (tz D)) : tSeq (tAsg te g) tz D σ H := h H (Ex.refl H) _ fun H1 e => k H1 e
end
/-! ### plain values and their types -/
inductive Pl : V → Prop where
  | non : Pl .non
  | bl (b : Bool) : Pl (.bl b)
  | int (i : Int) : Pl (.int i)
  | str (s : Str) : Pl (.str s)
def tyN : V → String
  | .bl _ => "bool"
  | .int _ => "int"
  | .str _ => "str"
  | _ => "NoneType"
def isInt : V → Bool
  | .int _ => true
  | _ => false
theorem tx_pl {K : PySem.W.Frag} {x : V} (h : Pl x) (H1 : Hp) : TyX K H1 x (.type (tyN x)) := by
  cases h with
  | non => exact .base .non
  | bl b => exact .base (.bl b)
  | int i => exact .base (.int i)
  | str s => exact .base (.str s)
theorem ev_isiP {K : PySem.W.Frag} {σ : L2.St} {H : Hp} {ta : TE} {x : V} {T : String} {b : Bool} (ha : Ev ta σ H x) (hx : Pl x) (hk : kitB (tyN x) T = some b) : Ev (tCB (rIsi K) (tCons ta (tCons (tC (.ty T)) tNil))) σ H (.bl b) :=
  ev_isi ha (tx_pl hx) hk
/-- isinstance(x, int) and not isinstance(x, bool) -/
theorem ev_isInt {K : PySem.W.Frag} {σ : L2.St} {H : Hp} {ta tb : TE} {x : V} (ha : Ev ta σ H x) (hb : Ev tb σ H x) (hx : Pl x) :
    Ev (tAndV (tCB (rIsi K) (tCons ta (tCons (tC (.ty "int")) tNil))) (tNotV (tCB (rIsi K) (tCons tb (tCons (tC (.ty "bool")) tNil))))) σ H (.bl (isInt x)) := by
  cases hx with
  | non => exact ev_is (ev_andV (ev_isiP (b := false) ha .non (by decide +kernel)) fun z => nomatch z) (show V.bl (false && true) = _ from rfl)
  | bl b => exact ev_is (ev_andV (ev_isiP (b := true) ha (.bl b) (by show kitB "bool" "int" = some true; decide +kernel)) fun _ => ev_notV (ev_isiP (b := true) hb (.bl b) (by show kitB "bool" "bool" = some true; decide +kernel))) rfl
  | int i => exact ev_is (ev_andV (ev_isiP (b := true) ha (.int i) (by show kitB "int" "int" = some true; decide +kernel)) fun _ => ev_notV (ev_isiP (b := false) hb (.int i) (by show kitB "int" "bool" = some false; decide +kernel))) rfl
  | str s => exact ev_is (ev_andV (ev_isiP (b := false) ha (.str s) (by show kitB "str" "int" = some false; decide +kernel)) fun z => nomatch z) (show V.bl (false && true) = _ from rfl)

/-! ### the order of tuples that need not be alike behind the first difference -/
section
open PySem.SeqAt PySem.MeetsSeq PySem.MeetsSeq2 PySem.MeetsSeq3
open PySem.AutoSeq1 (wpAny_loadPart')
/-- pairs walked from the left: the first that differ decide; z where none do -/
inductive Lx (A : Around) (s : Shared) (z : Bool) : List (Value × Value) → Bool → Prop
  | nil : Lx A s z [] z
  | eq {y x : Value} {ps : List (Value × Value)} {c : Bool} : EqAt A s y x true → Lx A s z ps c → Lx A s z ((y, x) :: ps) c
  | lt {y x : Value} {ps : List (Value × Value)} {c : Bool} : EqAt A s y x false → Ob.RcOp .Lt A s y x c → Lx A s z ((y, x) :: ps) c
theorem lt_meets (l b : Addr) (us vs : Array Value) (n m : Nat) (dl db : Option Addr) (sl sb : Array (Option Value)) :
    Meets (Builtin.«tuple.__lt__» ⟨[.ref l, .ref b], []⟩)
      (fun A R s => s.heap.get? l = some { cls := .type "tuple", dict := dl, data := .seq us n, slots := sl } ∧ s.heap.get? b = some { cls := .type "tuple", dict := db, data := .seq vs m, slots := sb } ∧
        ∃ c, Lx A.in1 s (decide (us.size < vs.size)) (us.toList.zip vs.toList) c ∧ R (.ok (.ret (.bool c))) s) := by
  refine .of_wp fun prog w A R s h => ?_
  obtain ⟨hp, g, d, tk, os⟩ := s
  obtain ⟨hl, hb, c, hx, h⟩ := h
  have f2 := AutoSeq1.sub_tuple_tuple
  wp_walk using wpAny_loadPart' hl, wpAny_loadPart' hb, wpAny_forIn_list _ (fun ps b s' => b.1 = none ∧ s' = ⟨hp, g, d, tk, os⟩ ∧ ∃ c, Lx A.in1 ⟨hp, g, d, tk, os⟩ (decide (us.size < vs.size)) ps c ∧ R (.ok (.ret (.bool c))) ⟨hp, g, d, tk, os⟩) _
  case turn =>
    rintro ⟨y, x⟩ ps b s' ⟨hb', rfl, c, hz, hR⟩
    cases hz with
    | eq he ht =>
      refine wpAny_bind (he prog w _ _ ?_)
      wp_walk
      exact ⟨rfl, rfl, c, ht, hR⟩
    | lt he hr =>
      refine wpAny_bind (he prog w _ _ ?_)
      have hri := hr prog w
      wp_walk using hri
      exact ⟨_, rfl, hR⟩
  case fin =>
    rintro ⟨b1, b2⟩ s' ⟨hb', rfl, c, hz, hR⟩
    simp only at hb'
    subst hb'
    cases hz
    wp_walk
    exact ⟨_, rfl, by simpa [Builtin.Tuple.tupleCompareSizes] using hR⟩
  case h => exact ⟨rfl, rfl, c, hx, h⟩
theorem lt_tuples {A : Around} {s : Shared} {l b : Addr} {us vs : Array Value} {c : Bool} (hl : s.heap.IsTuple l us) (hb : s.heap.IsTuple b vs) (hu : A.units < cLine) (hx : Lx A.in1 s (decide (us.size < vs.size)) (us.toList.zip vs.toList) c) :
    Ob.RcOp .Lt A s (.ref l) (.ref b) c := by
  intro prog w E Q h
  obtain ⟨⟨k1, dl, da, sl⟩, ho, hc, n, hd⟩ := hl
  obtain ⟨⟨k2, db, da2, sb⟩, ho2, hc2, m, hd2⟩ := hb
  simp only at hc hd hc2 hd2
  subst hc hd hc2 hd2
  exact richCompare_meets_room (op := .Lt) ⟨_, ho, rfl⟩ ⟨_, ho2, rfl⟩ F.slot_tuple_lt F.entry_tuple_lt (F.args_tuple_lt_2 _ _) (lt_meets l b us vs n m dl db sl sb) ⟨ho, ho2, c, hx, ⟨(fun z => nomatch z), h⟩⟩ hu
end
mutual
/-- less, of data -/
def ltD : PyData → PyData → Bool
  | .int a, .int b => decide (a < b)
  | .str x, .str y => decide (x.cps.toList < y.cps.toList)
  | .tuple xs, .tuple ys => ltDs xs ys
  | _, _ => false
def ltDs : List PyData → List PyData → Bool
  | [], [] => false
  | [], _ :: _ => true
  | _ :: _, [] => false
  | x :: xs, y :: ys => if PyData.eqv x y then ltDs xs ys else ltD x y
end
mutual
/-- may be compared by less -/
def ordD : PyData → PyData → Bool
  | .int _, .int _ => true
  | .str _, .str _ => true
  | .tuple xs, .tuple ys => ordDs xs ys
  | _, _ => false
def ordDs : List PyData → List PyData → Bool
  | [], _ => true
  | _ :: _, [] => true
  | x :: xs, y :: ys => if PyData.eqv x y then ordDs xs ys else ordD x y
end
theorem reads_len {h : Heap} : ∀ {ds : List PyData} {us : List Value} {as : List Addr}, ReadsAll h us ds as → us.length = ds.length
  | [], _, _, r => by cases r; rfl
  | _ :: ds, _, _, r => by
    cases r with
    | cons r1 r2 => exact congrArg (· + 1) (reads_len r2)
theorem lt_list {n : Nat} (IH : ∀ (d e : PyData) (A : Around) (s : Shared) (u v : Value) (as bs : List Addr), d.depth ≤ n → Reads s.heap u d as → Reads s.heap v e bs → d.canLay0 = true → e.canLay0 = true → ordD d e = true →
    A.units + d.depth < cLine → Ob.RcOp .Lt A s u v (ltD d e)) (A : Around) (s : Shared) : ∀ (xs ys : List PyData) (us vs : List Value) (as bs : List Addr), PyData.depthAll xs ≤ n → ReadsAll s.heap us xs as → ReadsAll s.heap vs ys bs →
    PyData.canLayAll0 xs = true → PyData.canLayAll0 ys = true → ordDs xs ys = true → A.units + PyData.depthAll xs < cLine → Lx A s (decide (xs.length < ys.length)) (us.zip vs) (ltDs xs ys) := by
  intro xs
  induction xs with
  | nil =>
    intro ys us vs as bs hn r1 r2 c1 c2 ho hu
    cases r1
    cases ys with
    | nil => exact .nil
    | cons y ys =>
      rw [show decide (([] : List PyData).length < (y :: ys).length) = true from decide_eq_true (Nat.zero_lt_succ _)]
      show Lx A s true [] true
      exact .nil
  | cons x xs ih =>
    intro ys us vs as bs hn r1 r2 c1 c2 ho hu
    cases ys with
    | nil =>
      cases r2
      rw [show decide ((x :: xs).length < ([] : List PyData).length) = false from decide_eq_false (Nat.not_lt_zero _), List.zip_nil_right]
      exact .nil
    | cons y ys =>
      have a1 : x.canLay0 = true ∧ PyData.canLayAll0 xs = true := by simpa [PyData.canLayAll0] using c1
      have a2 : y.canLay0 = true ∧ PyData.canLayAll0 ys = true := by simpa [PyData.canLayAll0] using c2
      have hd : A.units + max x.depth (PyData.depthAll xs) < cLine := hu
      have hn' : max x.depth (PyData.depthAll xs) ≤ n := hn
      rw [show decide ((x :: xs).length < (y :: ys).length) = decide (xs.length < ys.length) by simp]
      cases r1 with
      | cons p1 q1 =>
        cases r2 with
        | cons p2 q2 =>
          have he := PySem.SeqAt.eqAt_reads x y A s _ _ _ _ p1 p2 a1.1 a2.1 (by omega)
          by_cases c : PyData.eqv x y = true
          · have o : ordDs xs ys = true := by rw [ordDs, if_pos c] at ho; exact ho
            rw [show ltDs (x :: xs) (y :: ys) = ltDs xs ys by rw [ltDs, if_pos c]]
            rw [c] at he
            exact .eq he (ih ys _ _ _ _ (by omega) q1 q2 a1.2 a2.2 o (by omega))
          · have o : ordD x y = true := by rw [ordDs, if_neg c] at ho; exact ho
            rw [show ltDs (x :: xs) (y :: ys) = ltD x y by rw [ltDs, if_neg c]]
            rw [Bool.not_eq_true] at c
            rw [c] at he
            exact .lt he (IH x y A s _ _ _ _ (by omega) p1 p2 a1.1 a2.1 o (by omega))
theorem lt_reads : ∀ (n : Nat) (d e : PyData) (A : Around) (s : Shared) (u v : Value) (as bs : List Addr), d.depth ≤ n → Reads s.heap u d as → Reads s.heap v e bs → d.canLay0 = true → e.canLay0 = true → ordD d e = true →
    A.units + d.depth < cLine → Ob.RcOp .Lt A s u v (ltD d e) := by
  intro n
  induction n with
  | zero =>
    intro d e A s u v as bs hn r1 r2 c1 c2 ho hu
    cases r1 with
    | int a t =>
      cases r2 with
      | int b t' => rw [ltD]; exact Ob.RcOp.lt_int _ _ _ _
      | _ => simp [ordD] at ho
    | str a t =>
      cases r2 with
      | str b t' => rw [ltD]; exact fun prog w E Q h => lt_str h
      | _ => simp [ordD] at ho
    | tuple => simp [PyData.depth] at hn
    | _ => simp [ordD] at ho
  | succ n ih =>
    intro d e A s u v as bs hn r1 r2 c1 c2 ho hu
    cases r1 with
    | int a t =>
      cases r2 with
      | int b t' => rw [ltD]; exact Ob.RcOp.lt_int _ _ _ _
      | _ => simp [ordD] at ho
    | str a t =>
      cases r2 with
      | str b t' => rw [ltD]; exact fun prog w E Q h => lt_str h
      | _ => simp [ordD] at ho
    | tuple h1 h2 h3 h4 =>
      cases r2 with
      | tuple k1 k2 k3 k4 =>
        rename_i xs _ _ _ _ _ ys
        simp only [PyData.depth] at hn hu
        have l1 := reads_len h4
        have l2 := reads_len k4
        rw [ltD]
        refine lt_tuples ⟨_, h1, h2, _, h3⟩ ⟨_, k1, k2, _, k3⟩ (by omega) ?_
        rw [← Array.length_toList, ← Array.length_toList, l1, l2]
        exact lt_list ih A.in1 s _ _ _ _ _ _ (by omega) h4 k4 (by simpa [PyData.canLay0] using c1) (by simpa [PyData.canLay0] using c2) (by simpa [ordD] using ho) (by show A.units + 1 + _ < _; omega)
      | _ => simp [ordD] at ho
    | _ => simp [ordD] at ho
def rLtD (K : PySem.W.Frag) : R2 := fun x y H Q => ∃ d e, Dp K H x d ∧ Dp K H y e ∧ d.canLay0 = true ∧ e.canLay0 = true ∧ ordD d e = true ∧ d.depth ≤ 60 ∧ Q (.bl (ltD d e)) H
theorem op_ltD {X : Cx} (hu : X.A.units + 64 < cLine) : OpR X (compareOp .Lt) (rLtD X.K) := by
  intro pins s σ H x y v u Q I rx ry h
  obtain ⟨d, e, hd, he, c1, c2, o, dp, q⟩ := h
  obtain ⟨as, r1⟩ := Dp.reads I d x v hd rx
  obtain ⟨bs, r2⟩ := Dp.reads I e y u he ry
  exact lt_reads _ d e X.A s v u as bs (Nat.le_refl _) r1 r2 c1 c2 o (by omega) X.prog X.w _ _ ⟨.bl _, H, I, rfl, q⟩

/-! ### parts that give data -/
section
variable {K : PySem.W.Frag}
mutual
theorem ex_dp {H H' : Hp} (e : Ex H H') : ∀ {v : V} {d : PyData}, Dp K H v d → Dp K H' v d
  | _, _, .non => .non
  | _, _, .bl b => .bl b
  | _, _, .int i => .int i
  | _, _, .str x => .str x
  | _, _, .lst h a => .lst (ex_l e h) (ex_dps e a)
  | _, _, .tup h a => .tup (ex_t e h) (ex_dps e a)
theorem ex_dps {H H' : Hp} (e : Ex H H') : ∀ {vs : List V} {ds : List PyData}, DpAll K H vs ds → DpAll K H' vs ds
  | _, _, .nil => .nil
  | _, _, .cons h t => .cons (ex_dp e h) (ex_dps e t)
end
def EvD (K : PySem.W.Frag) (te : TE) (σ : L2.St) (H : Hp) (d : PyData) : Prop := ∀ H1, Ex H H1 → ∀ Q : VK, (∀ v H2, Ex H1 H2 → Dp K H2 v d → Q v H2) → te σ H1 Q
/-- a new list, a new tuple of data -/
def EvLD (K : PySem.W.Frag) (te : TE) (σ : L2.St) (H : Hp) (ds : List PyData) : Prop := ∀ H1, Ex H H1 → ∀ Q : VK, (∀ p H2 ys, H1 p = none → Ex H1 H2 → H2 p = some (.lst ys) → DpAll K H2 ys ds → Q (.ref p) H2) → te σ H1 Q
def EvUD (K : PySem.W.Frag) (te : TE) (σ : L2.St) (H : Hp) (ds : List PyData) : Prop := ∀ H1, Ex H H1 → ∀ Q : VK, (∀ p H2 ys, H1 p = none → Ex H1 H2 → H2 p = some (.tup ys) → DpAll K H2 ys ds → Q (.ref p) H2) → te σ H1 Q
def EvAD (K : PySem.W.Frag) (ta : TA) (σ : L2.St) (H : Hp) (ds : List PyData) : Prop := ∀ H1, Ex H H1 → ∀ Q : List V → Hp → Prop, (∀ vs H2, Ex H1 H2 → DpAll K H2 vs ds → Q vs H2) → ta σ H1 Q
variable {σ : L2.St} {H H' : Hp} {ta tb te : TE} {tr : TA} {x y z v : V} {d e : PyData} {ds es : List PyData}
theorem ed_val (h : Ev te σ H v) (hd : Dp K H v d) : EvD K te σ H d := fun H1 e Q q => h H1 e _ fun H2 e2 => q v H2 e2 (ex_dp (e.trans e2) hd)
theorem ed_tupU (h : EvUD K te σ H ds) : EvD K te σ H (.tuple ds) := fun H1 e Q q => h H1 e _ fun p H2 ys _ e2 h2 hd => q _ H2 e2 (.tup (st_of h2) hd)
theorem ed_lst (h : EvLD K te σ H ds) : EvD K te σ H (.list ds) := fun H1 e Q q => h H1 e _ fun p H2 ys _ e2 h2 hd => q _ H2 e2 (.lst (sq_of h2) hd)
theorem ad_nil : EvAD K tNil σ H [] := fun H1 _ _ q => q [] H1 (Ex.refl H1) .nil
theorem ad_cons (h : EvD K te σ H d) (hr : EvAD K tr σ H ds) : EvAD K (tCons te tr) σ H (d :: ds) := fun H1 e Q q =>
  h H1 e _ fun v H2 e2 hd => hr H2 (e.trans e2) _ fun vs H3 e3 hds => q (v :: vs) H3 (e2.trans e3) (.cons (ex_dp e3 hd) hds)
theorem dps_len : ∀ {vs : List V} {ds : List PyData} {H : Hp}, DpAll K H vs ds → vs.length = ds.length
  | _, _, _, .nil => rfl
  | _, _, _, .cons _ t => congrArg (· + 1) (dps_len t)
theorem ud_tup (h : EvAD K tr σ H ds) (hl : ds.length ≤ 100000) : EvUD K (tTup tr) σ H ds := fun H1 e Q q =>
  h H1 e _ fun vs H2 e2 hd => ⟨sz_of (by rw [dps_len hd]; exact hl), fun p hp => q p _ vs (fresh_back e2 hp) (e2.trans (Ex.new hp)) upd_same (ex_dps (Ex.new hp) hd)⟩
theorem ld_lst (h : EvAD K tr σ H ds) (hl : ds.length ≤ 100000) : EvLD K (tLst tr) σ H ds := fun H1 e Q q =>
  h H1 e _ fun vs H2 e2 hd => ⟨sz_of (by rw [dps_len hd]; exact hl), fun p hp => q p _ vs (fresh_back e2 hp) (e2.trans (Ex.new hp)) upd_same (ex_dps (Ex.new hp) hd)⟩
def SpD (K : PySem.W.Frag) (sp : Sp) (vs : List V) (H : Hp) (d : PyData) : Prop := ∀ H1, Ex H H1 → ∀ Q : VK, (∀ v H2, Ex H1 H2 → Dp K H2 v d → Q v H2) → ∀ E : XK, sp vs H1 Q E
def SpUD (K : PySem.W.Frag) (sp : Sp) (vs : List V) (H : Hp) (ds : List PyData) : Prop := ∀ H1, Ex H H1 → ∀ Q : VK, (∀ p H2 ys, H1 p = none → Ex H1 H2 → H2 p = some (.tup ys) → DpAll K H2 ys ds → Q (.ref p) H2) → ∀ E : XK, sp vs H1 Q E
theorem ud_call {sp : Sp} {dvs vs : List V} {E : XK} {ta : TA} (h : EvA ta σ H vs) (hs : SpUD K sp (vs ++ dvs) H ds) : EvUD K (tCall sp dvs E ta) σ H ds := fun H1 e Q q =>
  h H1 e _ fun H2 e2 => hs H2 (e.trans e2) Q (fun p H3 ys hp e3 h3 hd => q p H3 ys (fresh_back e2 hp) (e2.trans e3) h3 hd) E
/-- == , != , < of data -/
theorem ev_eqD (ha : EvD K ta σ H d) (hb : EvD K tb σ H e) (s1 : SeqAt.shaped d = true) (s2 : SeqAt.shaped e = true) : Ev (tOp (rEqD K) ta tb) σ H (.bl (PyData.eqv d e)) := fun H1 ex Q q =>
  ha H1 ex _ fun x H2 e2 h2 => hb H2 (ex.trans e2) _ fun y H3 e3 h3 => ⟨d, e, ex_dp e3 h2, h3, s1, s2, q H3 (e2.trans e3)⟩
theorem ev_neD (ha : EvD K ta σ H d) (hb : EvD K tb σ H e) (s1 : SeqAt.shaped d = true) (s2 : SeqAt.shaped e = true) : Ev (tOp (rNeD K) ta tb) σ H (.bl (!PyData.eqv d e)) := fun H1 ex Q q =>
  ha H1 ex _ fun x H2 e2 h2 => hb H2 (ex.trans e2) _ fun y H3 e3 h3 => ⟨d, e, ex_dp e3 h2, h3, s1, s2, q H3 (e2.trans e3)⟩
theorem ev_ltD (ha : EvD K ta σ H d) (hb : EvD K tb σ H e) (s1 : SeqAt.shaped d = true) (s2 : SeqAt.shaped e = true) (o : ordD d e = true) (dp : d.depth ≤ 60) : Ev (tOp (rLtD K) ta tb) σ H (.bl (ltD d e)) := fun H1 ex Q q =>
  ha H1 ex _ fun x H2 e2 h2 => hb H2 (ex.trans e2) _ fun y H3 e3 h3 => ⟨d, e, ex_dp e3 h2, h3, SeqAt.canLay_of_shaped s1, SeqAt.canLay_of_shaped s2, o, dp, q H3 (e2.trans e3)⟩
/-- tuple(a new list) -/
theorem ud_tuple {tl : TE} (h : EvLD K tl σ H ds) : EvUD K (tCB (fun xs H Q => ∃ p ys, xs = [.ref p] ∧ ((SqL K H p ys ∧ ∀ l, H l = none → Q (.ref l) (upd H l (.tup ys))) ∨ (SqT K H p ys ∧ Q (.ref p) H))) (tCons tl tNil)) σ H ds := fun H1 e Q q =>
  h H1 e _ fun p H2 ys _ e2 h2 hd => ⟨p, ys, rfl, .inl ⟨sq_of h2, fun l hl => q l _ ys (fresh_back e2 hl) (e2.trans (Ex.new hl)) upd_same (ex_dps (Ex.new hl) hd)⟩⟩
mutual
/-- no list within -/
def noL : PyData → Bool
  | .list _ => false
  | .tuple xs => noLs xs
  | .dict _ => false
  | .none | .bool _ | .int _ | .str _ => true
def noLs : List PyData → Bool
  | [] => true
  | x :: xs => noL x && noLs xs
end
mutual
theorem dp_upd {H : Hp} {D : Addr} {ys zs : List V} (hD : H D = some (.lst ys)) : ∀ {v : V} {d : PyData}, noL d = true → Dp K H v d → Dp K (upd H D (.lst zs)) v d
  | _, _, _, .non => .non
  | _, _, _, .bl b => .bl b
  | _, _, _, .int i => .int i
  | _, _, _, .str x => .str x
  | _, _, n, .lst h a => by simp [noL] at n
  | _, _, n, .tup h a => by
    refine .tup ?_ (dps_upd hD (by simpa [noL] using n) a)
    rcases h with (h | ⟨o, h⟩) | h
    · exact .inl (.inl (by rw [upd_ne (by intro z; rw [z, hD] at h; cases h)]; exact h))
    · exact .inl (.inr ⟨o, by rw [upd_ne (by intro z; rw [z, hD] at h; cases h)]; exact h⟩)
    · exact .inr h
theorem dps_upd {H : Hp} {D : Addr} {ys zs : List V} (hD : H D = some (.lst ys)) : ∀ {vs : List V} {ds : List PyData}, noLs ds = true → DpAll K H vs ds → DpAll K (upd H D (.lst zs)) vs ds
  | _, _, _, .nil => .nil
  | _, _, n, .cons h t => by
    have n' : (noL _ && noLs _) = true := n
    rw [Bool.and_eq_true] at n'
    exact .cons (dp_upd hD n'.1 h) (dps_upd hD n'.2 t)
end
theorem noLs_map {f : Nat → PyData} (h : ∀ i, noL (f i) = true) : ∀ l : List Nat, noLs (l.map f) = true
  | [] => rfl
  | i :: l => by
    show (noL (f i) && noLs (l.map f)) = true
    rw [h i, noLs_map h l]
    rfl
/-- [f(x) for x in xs] -/
theorem dps_snoc : ∀ {vs : List V} {ds : List PyData} {H : Hp} {v : V} {d : PyData}, DpAll K H vs ds → Dp K H v d → DpAll K H (vs ++ [v]) (ds ++ [d])
  | _, _, _, _, _, .nil, h => .cons h .nil
  | _, _, _, _, _, .cons a t, h => .cons a (dps_snoc t h)
theorem ld_lcL {a : Addr} {xs : List V} {tl : TE} {j : Nat} {vs : List Nat} (f : Nat → PyData) (h : Ev tl σ H (.ref a)) (hx : SqL K H a xs) (hz : xs.length ≤ 40000) (hn : ∀ i, noL (f i) = true) (hw : ∀ x, wipe ((wipe σ vs).set j (some x)) vs = wipe σ vs)
    (he : ∀ (i : Nat) (x : V) H1, Ex H H1 → xs[i]? = some x → EvD K te ((wipe σ vs).set j (some x)) H1 (f i)) :
    EvLD K (tLc (iList K tl) (gName j) tYes te vs) σ H ((List.range xs.length).map f) := fun H0 e0 Q q => h H0 e0 _ fun H1 e1 => ⟨a, rfl, ⟨xs, ex_l (e0.trans e1) hx⟩, fun D hD =>
  lc_list (xs := xs) (fun i H' => H1 D = none ∧ Ex H1 H' ∧ ∃ ys, H' D = some (.lst ys) ∧ DpAll K H' ys ((List.range i).map f)) ⟨hD, Ex.new hD, [], upd_same, .nil⟩ (fun i H' _ p => ex_l ((e0.trans e1).trans p.2.1) hx)
    (fun i x H' hi p => by
      obtain ⟨p1, p2, ys, p3, p4⟩ := p
      refine ⟨hw x, ?_⟩
      show te ((wipe σ vs).set j (some x)) H' fun y H4 => ∃ acc, H4 D = some (.lst acc) ∧ acc.length < sizeLine ∧ _
      refine he i x H' ((e0.trans e1).trans p2) hi H' (Ex.refl H') _ fun y H4 e4 hy => ⟨ys, e4 _ _ p3, sz_lt ?_, p1, Ex.mut (p2.trans e4) p1, ys ++ [y], upd_same, ?_⟩
      · have := dps_len p4
        rw [List.length_map, List.length_range] at this
        have := (List.getElem?_eq_some_iff.mp hi).1
        omega
      · rw [List.range_succ, List.map_append]
        exact dps_snoc (dps_upd (e4 _ _ p3) (noLs_map hn _) (ex_dps e4 p4)) (dp_upd (e4 _ _ p3) (hn i) hy))
    (fun H' p => by
      obtain ⟨p1, p2, ys, p3, p4⟩ := p
      exact q D H' ys (fresh_back e1 p1) (e1.trans p2) p3 p4)⟩
end

/-! ### the law's own def, run where the caller stands: nothing is being shown there -/
section
variable {P : Program} {w : World} {K : PySem.W.Frag} {mg mb : Str → Option Value}
theorem run_here {x : Str} {st : Stmt} {N ps : List Str} {k : Nat} {f : Addr} {fd : FuncData} {A : Around} {outer : List Env} {s : Shared} {H : Hp} {args : Args} {us : List Value} {vs : List V} {Q : VK} {base : Heap}
    (D : C8.Def K mg x st f fd) (S : FnScope N ps (C8.fnScope st)) (room : Room (k + 1) A) (env : Env0 P w K mg base A outer s H) (bi : BindsTo s fd args (ps.zip us)) (rv : Vals vs us) (len : vs.length = ps.length)
    (body : ∀ cdv : Value, Room k (A.deeper (envOfC x (C8.fnScope st) s.heap.objs.size f cdv)) →
      ∃ t, PSs (cxOf C8.CX0 P w K mg base N x (C8.fnScope st) f cdv A outer s H C8.E0).nox (C8.fnBody st) t ∧ t { nx := fun _ H' => Q .non H', rt := Q } (start N vs) H) :
    codeAny (model P w) A (.call (.ref f) args) (CR C8.CX0 outer P w H s Q C8.E0) s := by
  obtain ⟨oc, od, dV, kV, doc, pm, an, cdv, ct, osl, rfl, look, code⟩ := D.fn.ex
  have sub : ∀ b o, base.get? b = some o → s.heap.get? b = some o := fun b o e => (env.bs b o e).1
  have inK := env.mod.kin.keeps sub
  have noLim := env.mod.nolimit.keeps sub
  apply codeAny_call_function room.depth (inK _ _ look) rfl S.co S.gen rfl (PySem.W.codeRec_of inK code)
  apply bi
  apply wpAny_newFunctionEnv_cells S.kind
  · rintro ⟨n, v⟩ hy
    have hp := S.par n (List.of_mem_zip hy).1
    exact hp.imp id fun c => ⟨c, PySem.W.cellsFrom_some _ _ _ (.inl c)⟩
  intro e he s1 made
  subst he
  obtain ⟨t, ht, hq⟩ := body cdv (room.deeper _)
  have inv := inv_start (CX := C8.CX0) (E := C8.E0) (N := N) S room.hd env len rv made
  refine ⟨noLim.keeps made.toInCall.keep, codeAny_func ?_⟩
  refine wpAny_mono (ht.nox.run [] s1 _ H _ inv hq) ?_ fun _ _ z => z
  intro fl s' z
  match fl, z with
  | .ret u, ⟨v, σ', H', J, r, q⟩ => exact ⟨v, H', J.os, J.bare, J.base, J.hok, r, q⟩
  | .next, ⟨σ', H', J, q⟩ => exact ⟨V.non, H', J.os, J.bare, J.base, J.hok, rfl, q⟩
  | .brk, ⟨_, _, _, q⟩ => exact q.elim
  | .cont, ⟨_, _, _, q⟩ => exact q.elim
/-- what the call of the law leaves -/
def Done (s₁ : Shared) (r : Result) (s' : Shared) : Prop := r = .ok (.ret (.bool true)) ∧ OldK s₁.heap s'.heap ∧ s'.os = s₁.os ∧ AllBare s'.gens
theorem here_core {fa a : Addr} {s₁ : Shared} {vs : List Value} (H : Hp) (KX : K.In s₁.heap) (hns : s₁.heap.Ns mainGlobals mg) (hb : s₁.heap.Ns builtinsNs mb) (hbb : ∀ x : Str, x ≠ "__name__" → mb x = bootBuiltins x) (hlim : s₁.heap.NoLimit) (hg : s₁.gens = #[])
    (ha : s₁.heap.get? a = some { cls := .type "list", data := .seq vs.toArray }) (hok : HOk P w H s₁.heap) (only : ∀ b u, H b = some u → b = a ∧ K.lookup a = none ∧ ∃ o ys, u = .frz o (.lst ys))
    (body : ∀ base : Heap, K.In base → base.Ns mainGlobals mg → Env0 P w K mg base callerA [] s₁ H → codeAny (model P w) callerA (.call (.ref fa) ⟨[.ref a], []⟩) (CR C8.CX0 [] P w H s₁ (fun v _ => v = .bl true) C8.E0) s₁) :
    codeAny (model P w) callerA (.call (.ref fa) ⟨[.ref a], []⟩) (Done s₁) s₁ := by
  have free : ∀ {b : Addr} {o : Obj}, s₁.heap.get? b = some o → (b = a → False) → (hidT s₁.heap H).get? b = some o := fun {b o} e n => hidT_get e (by
    cases q : H b with
    | none => rfl
    | some u => exact (n (only b u q).1).elim)
  have dictFree : ∀ {b : Addr} {o : Obj} {es : Array DictEntry} {ep : Nat}, s₁.heap.get? b = some o → o.data = .dict es ep → (hidT s₁.heap H).get? b = some o := fun {b o es ep} e d => free e fun z => by
    rw [z, ha] at e
    cases e
    exact nomatch d
  have ns : ∀ {b : Addr} {m : Str → Option Value}, s₁.heap.Ns b m → (hidT s₁.heap H).Ns b m := by
    rintro b m ⟨o, es, ep, e, d, r⟩
    exact ⟨o, es, ep, dictFree e d, d, r⟩
  have inK : K.In (hidT s₁.heap H) := fun b o e => hidT_get (KX b o e) (by
    cases q : H b with
    | none => rfl
    | some u =>
      obtain ⟨z1, z2, _⟩ := only b u q
      rw [z1, z2] at e
      cases e)
  obtain ⟨mc, l1, l2⟩ := hlim
  have env : Env0 P w K mg (hidT s₁.heap H) callerA [] s₁ H :=
    { frames := rfl, mod := ⟨inK, ns hns, ⟨mb, ns hb, hbb⟩, ⟨mc, ns l1, l2⟩⟩, bs := fun b o e => of_hidT e, bsz := Nat.le_of_eq (hidT_size _ _), funs := trivial, frf := fun b z => (List.not_mem_nil z).elim, hok := hok, bare := .of_eq hg }
  refine codeAny_mono (body _ inK (ns hns) env) ?_
  intro r s' z
  match r, z with
  | .error e, z => exact (show False from z).elim
  | .ok .next, z => exact (show False from z).elim
  | .ok .brk, z => exact (show False from z).elim
  | .ok .cont, z => exact (show False from z).elim
  | .ok (.ret u), ⟨v, H', os, bare, un, hok', rel, q⟩ =>
    have q' : v = .bl true := q
    subst q'
    have eu : u = Value.bool true := rel
    subst eu
    refine ⟨rfl, OldK.of_keep fun b o e => ?_, os, bare⟩
    cases hq : H b with
    | none => exact un.keep b o e hq (fun z => (List.not_mem_nil z).elim) List.not_mem_nil
    | some u =>
      obtain ⟨_, _, o2, ys, rfl⟩ := only b u hq
      obtain ⟨w1, _⟩ := hok b _ hq
      obtain ⟨w2, _⟩ := hok' b _ (un.frzs b o2 _ hq)
      rw [e] at w1
      cases w1
      exact w2
theorem here_call {fa a : Addr} {s₁ : Shared} {vs : List Value} {ns : List Int} (KX : K.In s₁.heap) (hns : s₁.heap.Ns mainGlobals mg) (hb : s₁.heap.Ns builtinsNs mb) (hbb : ∀ x : Str, x ≠ "__name__" → mb x = bootBuiltins x) (hlim : s₁.heap.NoLimit) (hg : s₁.gens = #[])
    (ha : s₁.heap.get? a = some { cls := .type "list", data := .seq vs.toArray }) (hi : IntsAre vs ns) (hl : ns.length ≤ sizeLine)
    (body : ∀ (H : Hp) (base : Heap), K.In base → base.Ns mainGlobals mg → SqL K H a (ns.map V.int) → Env0 P w K mg base callerA [] s₁ H → codeAny (model P w) callerA (.call (.ref fa) ⟨[.ref a], []⟩) (CR C8.CX0 [] P w H s₁ (fun v _ => v = .bl true) C8.E0) s₁) :
    codeAny (model P w) callerA (.call (.ref fa) ⟨[.ref a], []⟩) (Done s₁) s₁ := by
  have rv := vals_ints hi
  cases hk : K.lookup a with
  | some o =>
    have e := (KX a o hk).symm.trans ha
    cases e
    refine here_core (fun _ => none) KX hns hb hbb hlim hg ha (fun b u z => nomatch (z : (none : Option HO) = some u)) (fun b u z => nomatch (z : (none : Option HO) = some u)) fun base i1 i2 i3 => body _ base i1 i2 (.inr ⟨_, vs.toArray, _, hk, rfl, rfl, rfl, ?_, by simpa using rv⟩) i3
    rw [List.size_toArray, hi.length]
    exact hl
  | none =>
    refine here_core (upd (fun _ => none) a (.frz { cls := .type "list", data := .seq vs.toArray } (.lst (ns.map V.int)))) KX hns hb hbb hlim hg ha (fun b u z => ?_) (fun b u z => ?_) fun base i1 i2 i3 => body _ base i1 i2 (.inl (.inr ⟨_, upd_same⟩)) i3
    · by_cases e : b = a
      · subst e
        rw [upd_same] at z
        cases z
        exact ⟨ha, by rw [List.length_map]; exact hl, vs, _, rv, ha⟩
      · rw [upd_ne e] at z
        cases z
    · by_cases e : b = a
      · subst e
        rw [upd_same] at z
        cases z
        exact ⟨rfl, hk, _, _, rfl⟩
      · rw [upd_ne e] at z
        cases z
end
/-- the end of a law whose def shows things -/
theorem walk_here {l : PySem.W.OpenLaw} {n k : Nat} {q : Program} {loose : List Str} {XP : (Str → Option Value) → Heap → Prop} {YP : World → Heap → Prop} {d : DefRec} {K : Params → PySem.W.Frag} {st : Stmt} {N : List Str}
    (hn : l.most = some n) (hn2 : n ≤ sizeLine) (hdf : d.params.defaults = []) (hr : Room (k + 1) callerA) (hY : ∀ (w : World) (h : Heap), YP w h → (K w.params).In h) (S : FnScope N ["script"] (C8.fnScope st))
    (F : ∀ (w : World) (mg : Str → Option Value) (fa : Addr) (h : Heap), (K w.params).In h → h.Ns mainGlobals mg → mg d.name = some (.ref fa) →
      ∃ fd : FuncData, C8.Def (K w.params) mg "law" st fa fd ∧ (∀ (s : Shared) (u : Value), BindsTo s fd ⟨[u], []⟩ [("script", u)]) ∧
        ∀ (base : Heap) (s : Shared) (H : Hp) (a : Addr) (ns : List Int) (cdv : Value), (K w.params).In base → base.Ns mainGlobals mg → ns.length ≤ n → SqL (K w.params) H a (ns.map V.int) →
          Room k (callerA.deeper (envOfC "law" (C8.fnScope st) s.heap.objs.size fa cdv)) →
          ∃ t, PSs (cxOf C8.CX0 l.prog w (K w.params) mg base N "law" (C8.fnScope st) fa cdv callerA [] s H C8.E0).nox (C8.fnBody st) t ∧ t { nx := fun _ _ => V.non = .bl true, rt := fun v _ => v = .bl true } (start N [.ref a]) H) :
    PySem.W.WalkO q loose XP YP l.row.toRowW d [] (fun f vs => PySem.call f vs) := by
  apply Att.attach_call hn hdf
  intro w s₀ s₁ mg mb fa o pm cd doc a vs ns G Y ho hd hcd hmg hobj hints hlen hg
  obtain ⟨fd, D, bi, body⟩ := F w mg fa _ (hY w _ Y) G.T.g hmg
  apply here_call (hY w _ Y) G.T.g G.T.b G.T.builtins G.T.nolimit hg hobj hints (Nat.le_trans hlen hn2)
  intro H base i1 i2 hS env
  exact run_here (us := [.ref a]) (vs := [.ref a]) D S hr env (bi s₁ (.ref a)) (.cons rfl .nil) rfl fun cdv room => body base s₁ H a ns cdv i1 i2 hlen hS room
/-! ### repr -/
def rRepr (K : PySem.W.Frag) : List V → Hp → VK → Prop := fun xs H Q => ∃ a d, xs = [.ref a] ∧ Dp K H (.ref a) d ∧ d.showable = true ∧ d.hasDict = false ∧ d.depth ≤ 60 ∧ d.shown.length ≤ sizeLine ∧ Q (.str d.shown) H
theorem call_repr {X : Cx} (hg : X.A.guards = some []) (hu : X.A.units + 64 < cLine) : CallR X (.builtin "repr") (rRepr X.K) := by
  intro pins s σ H xs us Q I r h
  obtain ⟨a, d, rfl, hd, h1, h2, h3, h4, q⟩ := h
  obtain ⟨u, rfl, ru⟩ := vals1 r
  obtain ⟨as, rd⟩ := Dp.reads I d _ u hd ru
  cases (show u = Value.ref a from ru)
  exact repr_of_reads' rd h1 (fun z => by rw [h2] at z; cases z) hg (by omega) (fun _ _ e => e) (fun h' u tk hk => ⟨.str d.shown, H, I.kept hk, ⟨_, rfl⟩, q⟩) h4
theorem ev_repr {K : PySem.W.Frag} {σ : L2.St} {H : Hp} {ta : TE} {a : Addr} {d : PyData} (ha : Ev ta σ H (.ref a)) (hd : Dp K H (.ref a) d) (hx : ∀ H1, Ex H H1 → Dp K H1 (.ref a) d) (h1 : d.showable = true) (h2 : d.hasDict = false) (h3 : d.depth ≤ 60) (h4 : d.shown.length ≤ sizeLine) :
    Ev (tCB (rRepr K) (tCons ta tNil)) σ H (.str d.shown) := fun H1 e Q q =>
  ha H1 e _ fun H2 e2 => ⟨a, d, rfl, hx H2 (e.trans e2), h1, h2, h3, h4, q H2 e2⟩

/-! ### how long a text of data can be -/
theorem app_len (x y : Str) : (x ++ y).length = x.length + y.length := PySem.strLen_append x y
theorem textFrom_le : ∀ (ts : List Str) (k : Nat) (acc : Str), (textFrom k acc ts).length ≤ acc.length + (ts.map fun t => t.length + 2).sum
  | [], k, acc => Nat.le_refl _
  | t :: r, k, acc => by
    rw [textFrom]
    refine Nat.le_trans (textFrom_le r _ _) ?_
    rw [List.map_cons, List.sum_cons]
    split
    · rw [app_len, app_len, show (", " : Str).length = 2 from rfl]; omega
    · rw [app_len, app_len, show (Str.ofString "").length = 0 from rfl]; omega
theorem listText_le (ts : List Str) : (listText ts).length ≤ 2 + (ts.map fun t => t.length + 2).sum := by
  unfold listText
  rw [app_len]
  have := textFrom_le ts 0 "["
  rw [show ("[" : Str).length = 1 from rfl] at this
  rw [show ("]" : Str).length = 1 from rfl]
  omega
theorem join_le : ∀ ts : List Str, (Str.join ", " ts).length ≤ (ts.map fun t => t.length + 2).sum
  | [] => Nat.zero_le _
  | [x] => by show x.length ≤ _; rw [List.map_cons, List.sum_cons]; omega
  | x :: y :: r => by
    have ih := join_le (y :: r)
    have e : Str.join ", " (x :: y :: r) = x ++ ", " ++ Str.join ", " (y :: r) := rfl
    rw [e, app_len, app_len, List.map_cons, List.sum_cons, show (", " : Str).length = 2 from rfl]
    omega
theorem tupleText_le (ts : List Str) : (tupleText ts).length ≤ 4 + (ts.map fun t => t.length + 2).sum := by
  unfold tupleText
  rw [app_len, app_len]
  have := join_le ts
  rw [show ("(" : Str).length = 1 from rfl]
  split
  · rw [show ((",)" : String) : Str).length = 2 from rfl]; omega
  · rw [show ((")" : String) : Str).length = 1 from rfl]; omega
mutual
/-- a bound of its text -/
def shB : PyData → Nat
  | .str x => 10 * x.length + 2
  | .list xs => 4 + shBs xs
  | .tuple xs => 4 + shBs xs
  | .none | .bool _ | .int _ | .dict _ => 2000
def shBs : List PyData → Nat
  | [] => 0
  | x :: xs => shB x + 2 + shBs xs
/-- may be shown -/
def shOk : PyData → Bool
  | .str x => PyData.strOk x
  | .int i => decide (i.natAbs.log2 < 1920)
  | .list xs => shOks xs
  | .tuple xs => shOks xs
  | .none | .bool _ => true
  | .dict _ => false
def shOks : List PyData → Bool
  | [] => true
  | x :: xs => shOk x && shOks xs
end
mutual
theorem shown_le : ∀ d : PyData, shOk d = true → d.shown.length ≤ shB d ∧ d.showable = true ∧ d.hasDict = false
  | .none, _ => ⟨by show 4 ≤ 2000; decide, rfl, rfl⟩
  | .bool b, _ => ⟨by cases b <;> (show _ ≤ 2000; decide), rfl, rfl⟩
  | .int i, h => by
    have hl : i.natAbs.log2 < 1920 := of_decide_eq_true h
    refine ⟨?_, decide_eq_true hl, rfl⟩
    have e := int_text_length_le (k := 1920) (by decide) hl
    show (Str.ofString (toString i)).length ≤ 2000
    rw [PySem.ofString_length]
    omega
  | .str x, h => by
    refine ⟨?_, rfl, rfl⟩
    show (reprText x).length ≤ 10 * x.length + 2
    refine StrLaws.reprText_len x fun c hc => ?_
    have h' : x.cps.all (· < 0x110000) = true := h
    rw [Array.all_eq_true'] at h'
    have := of_decide_eq_true (h' c (by simpa using hc))
    exact Nat.lt_of_lt_of_le this (by decide)
  | .list xs, h => by
    obtain ⟨h1, h2, h3⟩ := shown_les xs h
    refine ⟨?_, h2, h3⟩
    have := listText_le (PyData.shownAll xs)
    show (listText (PyData.shownAll xs)).length ≤ 4 + shBs xs
    omega
  | .tuple xs, h => by
    obtain ⟨h1, h2, h3⟩ := shown_les xs h
    refine ⟨?_, h2, h3⟩
    have := tupleText_le (PyData.shownAll xs)
    show (tupleText (PyData.shownAll xs)).length ≤ 4 + shBs xs
    omega
theorem shown_les : ∀ ds : List PyData, shOks ds = true → ((PyData.shownAll ds).map fun t => t.length + 2).sum ≤ shBs ds ∧ PyData.showableAll ds = true ∧ PyData.hasDictAll ds = false
  | [], _ => ⟨Nat.le_refl _, rfl, rfl⟩
  | d :: ds, h => by
    have h' : (shOk d && shOks ds) = true := h
    rw [Bool.and_eq_true] at h'
    obtain ⟨a1, a2, a3⟩ := shown_le d h'.1
    obtain ⟨b1, b2, b3⟩ := shown_les ds h'.2
    refine ⟨?_, ?_, ?_⟩
    · rw [PyData.shownAll, List.map_cons, List.sum_cons]
      show _ ≤ shB d + 2 + shBs ds
      omega
    · show (d.showable && PyData.showableAll ds) = true
      rw [a2, b2]
      rfl
    · show (d.hasDict || PyData.hasDictAll ds) = false
      rw [a3, b3]
      rfl
end
theorem ev_shown {K : PySem.W.Frag} {σ : L2.St} {H : Hp} {ta : TE} {d : PyData} (ha : EvD K ta σ H d) (hr : ∀ v H1, Dp K H1 v d → ∃ a, v = .ref a) (h1 : shOk d = true) (h2 : shB d ≤ 1000000) (h3 : d.depth ≤ 60) : Ev (tCB (rRepr K) (tCons ta tNil)) σ H (.str d.shown) := fun H1 e Q q =>
  ha H1 e _ fun v H2 e2 hd => by
    obtain ⟨a, rfl⟩ := hr v H2 hd
    obtain ⟨a1, a2, a3⟩ := shown_le d h1
    exact ⟨a, d, rfl, hd, a2, a3, h3, Nat.le_trans a1 (Nat.le_trans h2 (by decide)), q H2 e2⟩
theorem ref_tup {K : PySem.W.Frag} {ds : List PyData} : ∀ v H1, Dp K H1 v (.tuple ds) → ∃ a, v = .ref a := fun v H1 h => by
  cases h
  exact ⟨_, rfl⟩
theorem ref_lst {K : PySem.W.Frag} {ds : List PyData} : ∀ v H1, Dp K H1 v (.list ds) → ∃ a, v = .ref a := fun v H1 h => by
  cases h
  exact ⟨_, rfl⟩

/-! ### lists made by a comprehension over a range, lists joined -/
theorem ix_listK {X : Cx} {K : PySem.W.Frag} (h : X.K = K) : IxR X (rIxL K) := h ▸ ix_list
theorem ix_tupK {X : Cx} {K : PySem.W.Frag} (h : X.K = K) : IxR X (rIxT K) := h ▸ ix_tup
section
variable {K : PySem.W.Frag} {σ : L2.St} {H : Hp} {ta tb te : TE} {x y z v : V}
theorem el_lcR2 {tr : TA} {j : Nat} {vs : List Nat} {lo n : Int} (f : Nat → V) (h : EvA tr σ H [.int lo, .int n]) (hb : 0 ≤ lo ∧ lo ≤ n ∧ n ≤ 40000) (hw : ∀ x, wipe ((wipe σ vs).set j (some x)) vs = wipe σ vs)
    (he : ∀ (i : Nat) H1, Ex H H1 → lo + (i : Int) < n → Ev te ((wipe σ vs).set j (some (.int (lo + (i : Int))))) H1 (f i)) : EvL (tLc (iRng2 tr) (gName j) tYes te vs) σ H ((List.range (n - lo).toNat).map f) := fun H0 e Q q => h H0 e _ fun H1 e1 =>
  ⟨lo, n, rfl, ⟨by omega, by omega, by omega, by omega⟩, fun D hD =>
    lc_range (lo := lo) (n := (n - lo).toNat) (fun i H' => H1 D = none ∧ Ex H1 H' ∧ H' D = some (.lst ((List.range i).map f))) ⟨hD, Ex.new hD, upd_same⟩
      (fun i H' hi p => by
        obtain ⟨p1, p2, p3⟩ := p
        refine ⟨hw _, ?_⟩
        show te ((wipe σ vs).set j (some (.int (lo + (i : Int))))) H' fun y H4 => ∃ acc, H4 D = some (.lst acc) ∧ acc.length < sizeLine ∧ _
        refine he i H1 (e.trans e1) (by omega) H' p2 _ fun H4 e4 => ⟨_, e4 _ _ p3, sz_lt ?_, p1, Ex.mut (p2.trans e4) p1, ?_⟩
        · rw [List.length_map, List.length_range]; omega
        · rw [List.range_succ, List.map_append]
          exact upd_same)
      (fun H' p => q D H' (fresh_back e1 p.1) (e1.trans p.2.1) p.2.2)⟩
theorem el_cat {l b : Addr} {xs ys : List V} (ha : Ev ta σ H (.ref l)) (hb : Ev tb σ H (.ref b)) (h1 : H l = some (.lst xs)) (h2 : H b = some (.lst ys)) (hz : xs.length + ys.length ≤ 100000) : EvL (tOp rCat ta tb) σ H (xs ++ ys) := fun H1 e Q q =>
  ha H1 e _ fun H2 e2 => hb H2 (e.trans e2) _ fun H3 e3 => ⟨l, b, xs, ys, rfl, rfl, ((e.trans e2).trans e3) _ _ h1, ((e.trans e2).trans e3) _ _ h2, sz_of hz, fun p hp => q p _ (fresh_back (e2.trans e3) hp) ((e2.trans e3).trans (Ex.new hp)) upd_same⟩
/-- (a new list, a new list) -/
theorem q_two {i : Nat} {xs ys : List V} {D : Ends} {tz : TS} (ha : EvL ta σ H xs) (hb : EvL tb σ H ys) (k : ∀ p q r H1, Ex H H1 → H1 p = some (.lst xs) → H1 q = some (.lst ys) → H1 r = some (.tup [.ref p, .ref q]) → tz D (σ.set i (some (.ref r))) H1) :
    tSeq (tAsg (tTup (tCons ta (tCons tb tNil))) (gName i)) tz D σ H :=
  ha H (Ex.refl H) _ fun p H1 hp e1 h1 => hb H1 e1 _ fun q H2 hq e2 h2 => ⟨by show 2 ≤ sizeLine; decide, fun r hr => k p q r _ ((e1.trans e2).trans (Ex.new hr)) (Ex.new hr _ _ (e2 _ _ h1)) (Ex.new hr _ _ h2) upd_same⟩
end

def topS (i : Nat) : Stmt := PySem.Challenge.pw_stylobate_k01_order_of_values.main.body.getD i (.Pass ⟨0, 0, 0, 0⟩)
abbrev s_kind_rank : Stmt := topS 1
abbrev n_kind_rank : List Str := ["value"]
theorem sc_kind_rank : FnScope n_kind_rank ["value"] (C8.fnScope s_kind_rank) := C8.fnScope_by (by decide +kernel)
abbrev s_is_integer : Stmt := topS 2
abbrev n_is_integer : List Str := ["value"]
theorem sc_is_integer : FnScope n_is_integer ["value"] (C8.fnScope s_is_integer) := C8.fnScope_by (by decide +kernel)
abbrev s_rank : Stmt := topS 3
abbrev n_rank : List Str := ["value", "kind"]
theorem sc_rank : FnScope n_rank ["value"] (C8.fnScope s_rank) := C8.fnScope_by (by decide +kernel)
abbrev s_row_rank : Stmt := topS 4
abbrev n_row_rank : List Str := ["row", "value"]
theorem sc_row_rank : FnScope n_row_rank ["row"] (C8.fnScope s_row_rank) := C8.fnScope_by (by decide +kernel)
abbrev s_same : Stmt := topS 5
abbrev n_same : List Str := ["first", "second"]
theorem sc_same : FnScope n_same ["first", "second"] (C8.fnScope s_same) := C8.fnScope_by (by decide +kernel)
abbrev s_same_rows : Stmt := topS 6
abbrev n_same_rows : List Str := ["first", "second"]
theorem sc_same_rows : FnScope n_same_rows ["first", "second"] (C8.fnScope s_same_rows) := C8.fnScope_by (by decide +kernel)
abbrev s_before : Stmt := topS 7
abbrev n_before : List Str := ["first", "second"]
theorem sc_before : FnScope n_before ["first", "second"] (C8.fnScope s_before) := C8.fnScope_by (by decide +kernel)
abbrev s_row_before : Stmt := topS 8
abbrev n_row_before : List Str := ["first", "second"]
theorem sc_row_before : FnScope n_row_before ["first", "second"] (C8.fnScope s_row_before) := C8.fnScope_by (by decide +kernel)
abbrev s__law_numbers : Stmt := topS 10
abbrev n__law_numbers : List Str := ["script", "count", "numbers", "k", "cell"]
theorem sc__law_numbers : FnScope n__law_numbers ["script", "count"] (C8.fnScope s__law_numbers) := C8.fnScope_by (by decide +kernel)
abbrev s__law_is_integer : Stmt := topS 11
abbrev n__law_is_integer : List Str := ["value"]
theorem sc__law_is_integer : FnScope n__law_is_integer ["value"] (C8.fnScope s__law_is_integer) := C8.fnScope_by (by decide +kernel)
abbrev s__law_rank : Stmt := topS 12
abbrev n__law_rank : List Str := ["value"]
theorem sc__law_rank : FnScope n__law_rank ["value"] (C8.fnScope s__law_rank) := C8.fnScope_by (by decide +kernel)
abbrev s__law_text : Stmt := topS 13
abbrev n__law_text : List Str := ["number", "size", "signs", "few", "word", "rest", "k"]
theorem sc__law_text : FnScope n__law_text ["number", "size"] (C8.fnScope s__law_text) := C8.fnScope_by (by decide +kernel)
abbrev s__law_value : Stmt := topS 14
abbrev n__law_value : List Str := ["number", "rest", "choice"]
theorem sc__law_value : FnScope n__law_value ["number"] (C8.fnScope s__law_value) := C8.fnScope_by (by decide +kernel)
abbrev s__law_flag : Stmt := topS 15
abbrev n__law_flag : List Str := ["told", "due"]
theorem sc__law_flag : FnScope n__law_flag ["told", "due"] (C8.fnScope s__law_flag) := C8.fnScope_by (by decide +kernel)
abbrev s__law_less : Stmt := topS 16
abbrev n__law_less : List Str := ["first", "second", "k", "one", "other"]
theorem sc__law_less : FnScope n__law_less ["first", "second"] (C8.fnScope s__law_less) := C8.fnScope_by (by decide +kernel)
abbrev s__law_pair_right : Stmt := topS 17
abbrev n__law_pair_right : List Str := ["first", "second", "alike"]
theorem sc__law_pair_right : FnScope n__law_pair_right ["first", "second"] (C8.fnScope s__law_pair_right) := C8.fnScope_by (by decide +kernel)
abbrev s__law_one_right : Stmt := topS 18
abbrev n__law_one_right : List Str := ["value", "due", "told"]
theorem sc__law_one_right : FnScope n__law_one_right ["value"] (C8.fnScope s__law_one_right) := C8.fnScope_by (by decide +kernel)
abbrev s_law : Stmt := topS 19
abbrev n_law : List Str := ["script", "numbers", "first", "second", "kept", "one", "other", "alike", "k"]
theorem sc_law : FnScope n_law ["script"] (C8.fnScope s_law) := C8.fnScope_by (by decide +kernel)
/-! ### the law's numbers -/
def cell0 (ns : List Int) (k : Nat) : Int := if 0 < ns.length then ns.getD (k - k / ns.length * ns.length) 0 else 0
def cell1 (ns : List Int) (k : Nat) : Int := if cell0 ns k < 0 then 1 - 2 * cell0 ns k else cell0 ns k
def cellM (c : Int) (k : Nat) : Int := (((c + 101 * (k : Int) + 13) * 40692 + (k : Int) * (k : Int) * 6271) % 2147483399 + 29 * (k : Int) + 5) * 3935559000370003845 % 18446744073709551533
def cellN (ns : List Int) (k : Nat) : Int := if (ns.length : Int) ≤ (k : Int) ∨ cell1 ns k < 1000000000 then cellM (cell1 ns k) k else cell1 ns k
def lawN (ns : List Int) (c : Nat) : List Int := (List.range c).map (cellN ns)
theorem cell1_nn (ns : List Int) (k : Nat) : 0 ≤ cell1 ns k := by
  unfold cell1
  split <;> omega
theorem cellN_nn (ns : List Int) (k : Nat) : 0 ≤ cellN ns k := by
  unfold cellN
  split
  · unfold cellM
    exact Int.emod_nonneg _ (by decide)
  · exact cell1_nn ns k
theorem lawN_len (ns : List Int) (c : Nat) : (lawN ns c).length = c := by
  unfold lawN
  rw [List.length_map, List.length_range]
theorem lawN_nn {ns : List Int} {c : Nat} : ∀ n ∈ lawN ns c, 0 ≤ n := by
  intro n h
  unfold lawN at h
  obtain ⟨k, _, e⟩ := List.mem_map.mp h
  rw [← e]
  exact cellN_nn ns k
theorem lawN_get {ns : List Int} {c i : Nat} (h : i < c) : (lawN ns c)[i]? = some (cellN ns i) := by
  unfold lawN
  rw [List.getElem?_map, List.getElem?_range h] <;> rfl
/-- the k-th of them, as the law's list of values -/
theorem lawN_at {ns : List Int} {c i : Nat} (h : i < c) : atI ((lawN ns c).map V.int) (i : Int) = some (.int (cellN ns i)) := atI_nat (by
  rw [List.getElem?_map, lawN_get h] <;> rfl)
def sp__law_numbers (K : PySem.W.Frag) : Sp := fun vs H Q _ => ∃ (a : Addr) (ns : List Int) (c : Nat), vs = [.ref a, .int (c : Int)] ∧ SqL K H a (ns.map V.int) ∧ ns.length ≤ 63 ∧ c ≤ 1000 ∧
  ∀ p H', H p = none → Ex H H' → H' p = some (.lst ((lawN ns c).map V.int)) → Q (.ref p) H'
section
variable {P : Program} {w : World} {K : PySem.W.Frag} {mg : Str → Option Value} {base : Heap}
theorem ok__law_numbers (D : Dn K mg "_law_numbers" s__law_numbers ["script", "count"]) (z_int : mg "int" = none) (z_len : mg "len" = none) (z_range : mg "range" = none) :
    C8.Cal P w K mg base 1 "_law_numbers" (sp__law_numbers K) [] := by
  refine cal_of D sc__law_numbers (fun vs H Q E h => ?_) (fun f cdv A outer s H vs Q E hr h => ?_)
  · obtain ⟨_, _, _, rfl, _⟩ := h
    rfl
  refine ⟨_, (pss_cons (ps_set (i := 2) sc__law_numbers.nd rfl (.inl rfl) (pe_lst pa_nil))
    (pss_cons (ps_for PassesOwn.never rfl (pi_range1 rfl z_range (pa_cons (pv 1) pa_nil)) (pg_name (i := 3) sc__law_numbers.nd rfl (.inl rfl))
      (pss_cons (ps_set (i := 4) sc__law_numbers.nd rfl (.inl rfl) pe_int)
    (pss_cons (ps_if (pt_cmpR op_gt (pe_callB call_len_seq (by rfl) z_len PySem.boot_len (pa_cons (pv 0) pa_nil)) pe_int (nomark _))
      (pss_one (ps_set (i := 4) sc__law_numbers.nd rfl (.inl rfl) (pe_callTy call_int1 (by rfl) z_int (by decide +kernel) (pa_cons (pe_ix ix_list (pv 0) (pe_op op_sub (pv 3) (pe_op op_mul (pe_op op_fdiv (pv 3) (pe_callB call_len_seq (by rfl) z_len PySem.boot_len (pa_cons (pv 0) pa_nil))) (pe_callB call_len_seq (by rfl) z_len PySem.boot_len (pa_cons (pv 0) pa_nil)))) (fun _ _ => rfl)) pa_nil))))
      pss_nil)
    (pss_cons (ps_if (pt_cmpR op_lt (pv 4) pe_int (nomark _))
      (pss_one (ps_set (i := 4) sc__law_numbers.nd rfl (.inl rfl) (pe_op op_sub pe_int (pe_op op_mul pe_int (pv 4)))))
      pss_nil)
    (Evl.pss_cut (ps_if (PW.pt (pw_or (pt_cmpR op_ge (pv 3) (pe_callB call_len_seq (by rfl) z_len PySem.boot_len (pa_cons (pv 0) pa_nil)) (nomark _)) (pw_or1 (pt_cmpR op_lt (pv 4) pe_int (nomark _)))))
      (pss_cons (ps_set (i := 4) sc__law_numbers.nd rfl (.inl rfl) (pe_op op_mod (pe_callTy call_int1 (by rfl) z_int (by decide +kernel) (pa_cons (pe_op op_add (pe_op op_mul (pe_op op_add (pe_op op_add (pv 4) (pe_op op_mul pe_int (pv 3))) pe_int) pe_int) (pe_op op_mul (pe_op op_mul (pv 3) (pv 3)) pe_int)) pa_nil)) pe_int))
    (pss_one (ps_set (i := 4) sc__law_numbers.nd rfl (.inl rfl) (pe_op op_mod (pe_callTy call_int1 (by rfl) z_int (by decide +kernel) (pa_cons (pe_op op_mul (pe_op op_add (pe_op op_add (pv 4) (pe_op op_mul pe_int (pv 3))) pe_int) pe_int) pa_nil)) pe_int))))
      pss_nil)
    (pss_one (ps_expr (pe_bm PySem.F.plainAttrs_list PySem.F.slot_list_append PySem.F.type_list_append mt_append (pv 2) (pa_cons (pv 4) pa_nil)))))))))
    (pss_one (ps_ret (pv 2))))), ?_⟩
  obtain ⟨a, ns, c, rfl, hS, h63, hc, q⟩ := h
  have hl : (ns.map V.int).length = ns.length := List.length_map _
  refine q_asgL (el_lst ea_nil (by decide)) fun p H1 hp e1 h1 => ?_
  refine q_forR1 (n := (c : Int)) (ea_cons (ev_var rfl) ea_nil) ⟨by omega, by omega⟩
    (fun i σ H' => ∃ y3 y4, σ = [some (.ref a), some (.int (c : Int)), some (.ref p), y3, y4] ∧ Ex H H' ∧ H' p = some (.lst ((lawN ns i).map V.int)))
    (fun H2 e2 => ⟨none, none, rfl, e1.trans e2, e2 _ _ h1⟩) (fun i σ H2 hi hw => ?_) (fun σ H2 hw => ?_)
  · obtain ⟨y3, y4, rfl, e2, h2⟩ := hw
    have hS2 : SqL K H2 a (ns.map V.int) := ex_l e2 hS
    refine q_asg ev_c fun H3 e3 => ?_
    have hS3 : SqL K H3 a (ns.map V.int) := ex_l e3 hS2
    -- the cell as the script has it
    refine q_ifAsg (v := .int (cell0 ns i)) (b := decide ((0 : Int) < ((ns.map V.int).length : Int))) ?_ (fun hb => ?_) (fun hb => ?_) fun H4 e4 => ?_
    · walk_at "et"
    · have h0 : 0 < ns.length := by
        have := of_decide_eq_true hb
        rw [hl] at this
        omega
      have em : i / ns.length * ns.length ≤ i := Nat.div_mul_le_self i ns.length
      have hlt : i - i / ns.length * ns.length < ns.length := by
        have := Nat.mod_lt i h0
        have := Nat.div_add_mod i ns.length
        rw [Nat.mul_comm] at this
        omega
      have ea : atI (ns.map V.int) ((i : Int) - (i : Int) / ((ns.map V.int).length : Int) * ((ns.map V.int).length : Int)) = some (.int (cell0 ns i)) := by
        rw [hl]
        have e5 : (i : Int) - (i : Int) / (ns.length : Int) * (ns.length : Int) = ((i - i / ns.length * ns.length : Nat) : Int) := by
          rw [Int.ofNat_sub em, Int.natCast_mul, Int.natCast_ediv]
        rw [e5]
        refine atI_nat ?_
        unfold cell0
        rw [if_pos h0, List.getElem?_map, List.getElem?_eq_getElem hlt, List.getD_eq_getElem?_getD, List.getElem?_eq_getElem hlt] <;> rfl
      refine ev_int (ev_op (ev_var rfl) (ev_op (ev_var rfl) (ev_op (ev_op (ev_var rfl) (ev_len (ev_var rfl) hS3) (rv_I ⟨?_, ?_⟩)) (ev_len (ev_var rfl) hS3) (rv_I ?_)) rv_I0) (rv_ixL hS3 ea))
      · rw [hl]; omega
      · rw [hl]; omega
      · rw [hl]; exact .inr ⟨by omega, by omega⟩
    · have h0 : ¬ 0 < ns.length := by
        have := of_decide_eq_false hb
        rw [hl] at this
        omega
      unfold cell0
      rw [if_neg h0]
      rfl
    have hS4 : SqL K H4 a (ns.map V.int) := ex_l e4 hS3
    refine q_ifAsg (v := .int (cell1 ns i)) (b := decide (cell0 ns i < 0)) (by walk_at "et") (fun hb => ?_) (fun hb => ?_) fun H5 e5 => ?_
    · refine ev_is (v := .int (1 - 2 * cell0 ns i)) (by walk_at "ev") ?_
      unfold cell1
      rw [if_pos (of_decide_eq_true hb)]
    · unfold cell1
      rw [if_neg (of_decide_eq_false hb)]
      rfl
    have hS5 : SqL K H5 a (ns.map V.int) := ex_l e5 hS4
    have h5 : H5 p = some (.lst ((lawN ns i).map V.int)) := e5 _ _ (e4 _ _ (e3 _ _ h2))
    have x5 : Ex H H5 := ((e2.trans e3).trans e4).trans e5
    -- the cell mixed
    refine q_cut (M := fun σ H' => σ = [some (.ref a), some (.int (c : Int)), some (.ref p), some (.int (i : Int)), some (.int (cellN ns i))] ∧ Ex H5 H') ?_ ?_
    · refine s_if (b := decide ((((ns.map V.int).length : Nat) : Int) ≤ (i : Int)) || decide (cell1 ns i < 1000000000)) ?_ (fun hb H6 e6 => ?_) (fun hb H6 e6 => ?_)
      · exact et_or (et_test (ev_op (ev_var rfl) (ev_len (ev_var rfl) hS5) rv_I0)) fun _ => et_test (ev_op (ev_var rfl) ev_c rv_I0)
      · have hb' : (ns.length : Int) ≤ (i : Int) ∨ cell1 ns i < 1000000000 := by
          rw [Bool.or_eq_true, decide_eq_true_eq, decide_eq_true_eq, hl] at hb
          exact hb
        refine q_asg (v := .int (((cell1 ns i + 101 * (i : Int) + 13) * 40692 + (i : Int) * (i : Int) * 6271) % 2147483399)) ?_ fun H7 e7 => ?_
        · refine ev_op (ev_int (ev_op (ev_op (ev_op (ev_op (ev_var rfl) (ev_op ev_c (ev_var rfl) (rv_I (.inl ⟨by decide, by decide⟩))) rv_I0) ev_c rv_I0) ev_c (rv_I (.inr ⟨by decide, by decide⟩))) (ev_op (ev_op (ev_var rfl) (ev_var rfl) (rv_I (.inl ⟨by omega, by omega⟩))) ev_c (rv_I (.inr ⟨by decide, by decide⟩))) rv_I0)) ev_c (rv_I (by decide))
        refine s_asg (v := .int (cellN ns i)) ?_ fun H8 e8 => ⟨rfl, (e6.trans e7).trans e8⟩
        refine ev_is (ev_op (ev_int (ev_op (ev_op (ev_op (ev_var rfl) (ev_op ev_c (ev_var rfl) (rv_I (.inl ⟨by decide, by decide⟩))) rv_I0) ev_c rv_I0) ev_c (rv_I (.inr ⟨by decide, by decide⟩)))) ev_c (rv_I (by decide))) ?_
        unfold cellN
        rw [if_pos hb']
        rfl
      · have hb' : ¬ ((ns.length : Int) ≤ (i : Int) ∨ cell1 ns i < 1000000000) := by
          intro z
          rw [Bool.or_eq_false_iff, decide_eq_false_iff_not, decide_eq_false_iff_not, hl] at hb
          rcases z with z | z
          · exact hb.1 z
          · exact hb.2 z
        refine ⟨?_, e6⟩
        unfold cellN
        rw [if_neg hb']
        rfl
    · intro σ' H' hm
      obtain ⟨rfl, x6⟩ := hm
      refine s_app (x6 _ _ h5) (ev_var rfl) (ev_var rfl) (by rw [List.length_map, lawN_len]; omega) fun H7 e7 => ?_
      refine ⟨_, _, rfl, Ex.mut ((x5.trans x6).trans e7) hp, ?_⟩
      rw [upd_same]
      unfold lawN
      rw [List.range_succ, List.map_append, List.map_append]
      rfl
  · obtain ⟨y3, y4, rfl, e2, h2⟩ := hw
    have ec : ((c : Int)).toNat = c := by omega
    rw [ec] at h2
    exact s_ret (ev_var rfl) fun H3 e3 => q p H3 hp (e2.trans e3) (e3 _ _ h2)
end

/-! ### the law's texts and values -/
def signsL : List Nat := (PySem.Str.ofString " !\"#$&'()*+,-./0123456789:;<=>?@ABCDEFGHIJKLMNOPQRSTUVWXYZ[\\]^_`abcdefghijklmnopqrstuvwxyz{|}~").cps.toList
def fewL : List Nat := (PySem.Str.ofString "ab*?\\ -'\"A").cps.toList
theorem signs_len : signsL.length = 94 := by decide +kernel
theorem few_len : fewL.length = 10 := by decide +kernel
theorem signs_ok : ∀ c ∈ signsL, 32 ≤ c ∧ c ≤ 126 := by decide +kernel
theorem few_ok : ∀ c ∈ fewL, 32 ≤ c ∧ c ≤ 126 := by decide +kernel
/-- what is written so far, and the rest of the number -/
def lawTS (n : Int) : Nat → List Nat × Int
  | 0 => ([], n / 3)
  | k + 1 => if n % 3 = 0 then ((lawTS n k).1 ++ [signsL.getD ((lawTS n k).2 % 94).toNat 0], (lawTS n k).2 / 94 + 7 * (k : Int))
      else ((lawTS n k).1 ++ [fewL.getD ((lawTS n k).2 % 10).toNat 0], (lawTS n k).2 / 10 + 7 * (k : Int))
def lawT (n : Int) (size : Nat) : List Nat := (lawTS n size).1
def okC (c : Nat) : Prop := 32 ≤ c ∧ c ≤ 126
theorem getD_mem {l : List Nat} {i : Nat} (h : i < l.length) : l.getD i 0 ∈ l := by
  rw [List.getD_eq_getElem?_getD, List.getElem?_eq_getElem h]
  exact List.getElem_mem h
theorem sign_at {l : List Nat} {r : Int} {m : Nat} (hl : l.length = m) (hm : 0 < m) : (r % (m : Int)).toNat < l.length := by
  have h1 := Int.emod_nonneg r (show (m : Int) ≠ 0 by omega)
  have h2 := Int.emod_lt_of_pos r (show (0 : Int) < (m : Int) by omega)
  omega
theorem pick {l : List Nat} {r : Int} {m : Nat} (hl : l.length = m) (hm : 0 < m) : atI l (r % (m : Int)) = some (l.getD (r % (m : Int)).toNat 0) := by
  have hx := sign_at (r := r) hl hm
  have h1 := Int.emod_nonneg r (show (m : Int) ≠ 0 by omega)
  have e : atI l (((r % (m : Int)).toNat : Nat) : Int) = some (l.getD (r % (m : Int)).toNat 0) := atI_nat (by
    rw [List.getElem?_eq_getElem hx, List.getD_eq_getElem?_getD, List.getElem?_eq_getElem hx] <;> rfl)
  rw [Int.toNat_of_nonneg h1] at e
  exact e
theorem lawT_len (n : Int) : ∀ k, (lawT n k).length = k
  | 0 => rfl
  | k + 1 => by
    have ih := lawT_len n k
    unfold lawT at ih ⊢
    rw [lawTS]
    split <;> (show (_ ++ [_]).length = k + 1; rw [List.length_append, ih] <;> rfl)
theorem lawT_ok (n : Int) : ∀ k, ∀ c ∈ lawT n k, okC c
  | 0, c, h => by cases h
  | k + 1, c, h => by
    have ih := lawT_ok n k
    unfold lawT at ih h
    rw [lawTS] at h
    split at h
    · rcases List.mem_append.mp h with h | h
      · exact ih c h
      · rw [List.mem_singleton.mp h]
        exact signs_ok _ (getD_mem (sign_at signs_len (by decide)))
    · rcases List.mem_append.mp h with h | h
      · exact ih c h
      · rw [List.mem_singleton.mp h]
        exact few_ok _ (getD_mem (sign_at few_len (by decide)))
def lawV (n : Int) : V :=
  if n % 8 = 0 then .non else if n % 8 = 1 then .bl (decide (n / 8 % 2 = 0)) else if n % 8 = 2 then .int (n / 8 % 3 - 1)
  else if n % 8 = 3 then .int (n / 8 % 2000000000000001 - 1000000000000000) else if n % 8 = 4 then .int (n / 8 % 3652059 - 719162)
  else if n % 8 = 5 then .int (n / 8 % 40 - 20) else .str (SX.S (lawT (n / 8 / 13) (n / 8 % 13).toNat))
/-- a plain value: None, a boolean, a small integer, a short text of plain signs -/
inductive VOk : V → Prop where
  | non : VOk .non
  | bl (b : Bool) : VOk (.bl b)
  | int (i : Int) (h : -1000000000000000 ≤ i ∧ i ≤ 1000000000000000) : VOk (.int i)
  | str (l : List Nat) (h : l.length ≤ 12) (hc : ∀ c ∈ l, okC c) : VOk (.str (SX.S l))
theorem lawV_ok (n : Int) : VOk (lawV n) := by
  unfold lawV
  split
  · exact .non
  split
  · exact .bl _
  split
  · exact .int _ (by omega)
  split
  · exact .int _ (by omega)
  split
  · exact .int _ (by omega)
  split
  · exact .int _ (by omega)
  · exact .str _ (by rw [lawT_len]; omega) (lawT_ok _ _)
def sp__law_text (K : PySem.W.Frag) : Sp := fun vs H Q _ => ∃ (n : Int) (z : Nat), vs = [.int n, .int (z : Int)] ∧ z ≤ 1000 ∧ ∀ H', Ex H H' → Q (.str (SX.S (lawT n z))) H'
def sp__law_value (K : PySem.W.Frag) : Sp := fun vs H Q _ => ∃ n : Int, vs = [.int n] ∧ ∀ H', Ex H H' → Q (lawV n) H'
theorem join_ones : ∀ l : List Nat, Txt.join (SX.S []) (l.map fun c => (⟨#[c]⟩ : Str)) = SX.S l := by
  intro l
  have e : (l.map fun c => (⟨#[c]⟩ : Str)) = (l.map fun c => [c]).map SX.S := by
    rw [List.map_map]
    rfl
  rw [e, SX.join_S]
  congr 1
  induction l with
  | nil => rfl
  | cons c r ih =>
    cases r with
    | nil => rfl
    | cons d r => 
      have e2 : TL.joinL [] (List.map (fun c => [c]) (c :: d :: r)) = c :: TL.joinL [] (List.map (fun c => [c]) (d :: r)) := rfl
      rw [e2, ih (by rw [List.map_map]; rfl)]
section
variable {P : Program} {w : World} {K : PySem.W.Frag} {mg : Str → Option Value} {base : Heap}
theorem ok__law_text (D : Dn K mg "_law_text" s__law_text ["number", "size"]) (z_int : mg "int" = none) (z_range : mg "range" = none) :
    C8.Cal P w K mg base 1 "_law_text" (sp__law_text K) [] := by
  refine cal_of D sc__law_text (fun vs H Q E h => ?_) (fun f cdv A outer s H vs Q E hr h => ?_)
  · obtain ⟨_, _, rfl, _⟩ := h
    rfl
  refine ⟨_, (pss_cons (ps_set (i := 2) sc__law_text.nd rfl (.inl rfl) pe_str)
    (pss_cons (ps_set (i := 3) sc__law_text.nd rfl (.inl rfl) pe_str)
    (pss_cons (ps_set (i := 4) sc__law_text.nd rfl (.inl rfl) (pe_lst pa_nil))
    (pss_cons (ps_set (i := 5) sc__law_text.nd rfl (.inl rfl) (pe_op op_fdiv (pe_callTy call_int1 (by rfl) z_int (by decide +kernel) (pa_cons (pv 0) pa_nil)) pe_int))
    (pss_cons (ps_for PassesOwn.never rfl (pi_range1 rfl z_range (pa_cons (pv 1) pa_nil)) (pg_name (i := 6) sc__law_text.nd rfl (.inl rfl))
      (pss_one (ps_if (pt_cmpR op_eq (pe_op op_mod (pe_callTy call_int1 (by rfl) z_int (by decide +kernel) (pa_cons (pv 0) pa_nil)) pe_int) pe_int (nomark _))
      (pss_cons (ps_expr (pe_bm PySem.F.plainAttrs_list PySem.F.slot_list_append PySem.F.type_list_append mt_append (pv 4) (pa_cons (pe_ix ix_str (pv 2) (pe_op op_mod (pe_callTy call_int1 (by rfl) z_int (by decide +kernel) (pa_cons (pv 5) pa_nil)) pe_int) (fun _ _ => rfl)) pa_nil)))
    (pss_one (ps_set (i := 5) sc__law_text.nd rfl (.inl rfl) (pe_op op_add (pe_op op_fdiv (pv 5) pe_int) (pe_op op_mul pe_int (pv 6))))))
      (pss_cons (ps_expr (pe_bm PySem.F.plainAttrs_list PySem.F.slot_list_append PySem.F.type_list_append mt_append (pv 4) (pa_cons (pe_ix ix_str (pv 3) (pe_op op_mod (pe_callTy call_int1 (by rfl) z_int (by decide +kernel) (pa_cons (pv 5) pa_nil)) pe_int) (fun _ _ => rfl)) pa_nil)))
    (pss_one (ps_set (i := 5) sc__law_text.nd rfl (.inl rfl) (pe_op op_add (pe_op op_fdiv (pv 5) pe_int) (pe_op op_mul pe_int (pv 6)))))))))
    (pss_one (ps_ret (pe_join pe_str (pv 4))))))))), ?_⟩
  obtain ⟨n, z, rfl, hz, q⟩ := h
  refine q_asg ev_c fun H1 e1 => ?_
  refine q_asg ev_c fun H2 e2 => ?_
  refine q_asgL (el_lst ea_nil (by decide)) fun p H3 hp e3 h3 => ?_
  refine q_asg (v := .int (n / 3)) (by walk_at "ev") fun H4 e4 => ?_
  have x2 : Ex H H2 := e1.trans e2
  refine q_forR1 (n := (z : Int)) (ea_cons (ev_var rfl) ea_nil) ⟨by omega, by omega⟩
    (fun i σ H' => ∃ y6, σ = [some (.int n), some (.int (z : Int)), some (.str (SX.S signsL)), some (.str (SX.S fewL)), some (.ref p), some (.int (lawTS n i).2), y6] ∧ Ex H2 H' ∧ H' p = some (.lst ((lawT n i).map fun c => V.str ⟨#[c]⟩)))
    (fun H5 e5 => ⟨none, rfl, (e3.trans e4).trans e5, e5 _ _ (e4 _ _ h3)⟩) (fun i σ H5 hi hw => ?_) (fun σ H5 hw => ?_)
  · obtain ⟨y6, rfl, e5, h5⟩ := hw
    have hlen : (((lawT n i).map fun c => V.str ⟨#[c]⟩)).length < 100000 := by
      rw [List.length_map, lawT_len]
      omega
    refine s_if (b := decide (V.int (n % 3) = V.int 0)) (by walk_at "et") (fun hb H6 e6 => ?_) (fun hb H6 e6 => ?_)
    · have hb' : n % 3 = 0 := V.int.inj (of_decide_eq_true hb)
      have hx := sign_at (r := (lawTS n i).2) signs_len (by decide)
      refine q_app (v := .str ⟨#[signsL.getD ((lawTS n i).2 % 94).toNat 0]⟩) (e6 _ _ h5) (ev_var rfl) ?_ hlen fun H7 e7 => ?_
      · refine ev_op (ev_var rfl) (y := .int ((lawTS n i).2 % 94)) (by walk_at "ev") (rv_ixS (by decide +kernel) ?_)
        exact pick (m := 94) signs_len (by decide)
      refine s_asg (v := .int ((lawTS n (i + 1)).2)) ?_ fun H8 e8 => ?_
      · refine ev_is (v := .int ((lawTS n i).2 / 94 + 7 * (i : Int))) (by walk_at "ev") ?_
        rw [lawTS, if_pos hb']
      · refine ⟨_, rfl, (Ex.mut ((e5.trans e6).trans e7) (fresh_back (Ex.refl _) hp)).trans e8, ?_⟩
        refine e8 _ _ ?_
        rw [upd_same]
        unfold lawT
        rw [lawTS, if_pos hb', List.map_append]
        rfl
    · have hb' : ¬ n % 3 = 0 := fun e => of_decide_eq_false hb (by rw [e])
      have hx := sign_at (r := (lawTS n i).2) few_len (by decide)
      refine q_app (v := .str ⟨#[fewL.getD ((lawTS n i).2 % 10).toNat 0]⟩) (e6 _ _ h5) (ev_var rfl) ?_ hlen fun H7 e7 => ?_
      · refine ev_op (ev_var rfl) (y := .int ((lawTS n i).2 % 10)) (by walk_at "ev") (rv_ixS (by decide +kernel) ?_)
        exact pick (m := 10) few_len (by decide)
      refine s_asg (v := .int ((lawTS n (i + 1)).2)) ?_ fun H8 e8 => ?_
      · refine ev_is (v := .int ((lawTS n i).2 / 10 + 7 * (i : Int))) (by walk_at "ev") ?_
        rw [lawTS, if_neg hb']
      · refine ⟨_, rfl, (Ex.mut ((e5.trans e6).trans e7) (fresh_back (Ex.refl _) hp)).trans e8, ?_⟩
        refine e8 _ _ ?_
        rw [upd_same]
        unfold lawT
        rw [lawTS, if_neg hb', List.map_append]
        rfl
  · obtain ⟨y6, rfl, e5, h5⟩ := hw
    have ez : ((z : Int)).toNat = z := by omega
    rw [ez] at h5
    have hl : ((lawT n z).map fun c => V.str ⟨#[c]⟩) = ((lawT n z).map fun c => (⟨#[c]⟩ : Str)).map V.str := by
      rw [List.map_map]
      rfl
    refine ⟨⟨_, rfl⟩, _, rfl, SX.S [], p, (lawT n z).map fun c => (⟨#[c]⟩ : Str), rfl, rfl, .inl (sq_of ?_), ?_, ?_⟩
    · rw [← hl]
      exact h5
    · have e9 : ((lawT n z).map fun c => (⟨#[c]⟩ : Str)).map (·.length) = List.replicate z 1 := by
        rw [List.map_map, List.eq_replicate_iff]
        refine ⟨by rw [List.length_map, lawT_len], fun b hb => ?_⟩
        obtain ⟨c, _, rfl⟩ := List.mem_map.mp hb
        rfl
      rw [e9, List.sum_replicate_nat, List.length_map, lawT_len]
      show z * 1 + z * 0 ≤ _
      omega
    · rw [join_ones]
      exact q _ (x2.trans e5)
theorem ec_text {σ : L2.St} {H : Hp} {ta tb : TE} {E : XK} {n m : Int} (ha : Ev ta σ H (.int n)) (hb : Ev tb σ H (.int m)) (h0 : 0 ≤ m) (h1 : m ≤ 1000) : Ev (tCall (sp__law_text K) [] E (tCons ta (tCons tb tNil))) σ H (.str (SX.S (lawT n m.toNat))) :=
  ev_call (ea_cons ha (ea_cons hb ea_nil)) fun H1 e Q q E => ⟨n, m.toNat, by rw [Int.toNat_of_nonneg h0]; rfl, by omega, q⟩
theorem ok__law_value (D : Dn K mg "_law_value" s__law_value ["number"]) (c__law_text : C8.Cal P w K mg base 1 "_law_text" (sp__law_text K) []) (z_int : mg "int" = none) :
    C8.Cal P w K mg base 2 "_law_value" (sp__law_value K) [] := by
  refine cal_of D sc__law_value (fun vs H Q E h => ?_) (fun f cdv A outer s H vs Q E hr h => ?_)
  · obtain ⟨_, rfl, _⟩ := h
    rfl
  refine ⟨_, (pss_cons (ps_set (i := 1) sc__law_value.nd rfl (.inl rfl) (pe_op op_fdiv (pe_callTy call_int1 (by rfl) z_int (by decide +kernel) (pa_cons (pv 0) pa_nil)) pe_int))
    (pss_cons (ps_set (i := 2) sc__law_value.nd rfl (.inl rfl) (pe_op op_mod (pe_callTy call_int1 (by rfl) z_int (by decide +kernel) (pa_cons (pv 0) pa_nil)) pe_int))
    (pss_cons (ps_if (pt_cmpR op_eq (pv 2) pe_int (nomark _))
      (pss_one (ps_ret pe_non))
      pss_nil)
    (pss_cons (ps_if (pt_cmpR op_eq (pv 2) pe_int (nomark _))
      (pss_one (ps_ret (pe_cmpR op_eq (pe_op op_mod (pv 1) pe_int) pe_int (nomark _))))
      pss_nil)
    (pss_cons (ps_if (pt_cmpR op_eq (pv 2) pe_int (nomark _))
      (pss_one (ps_ret (pe_op op_sub (pe_op op_mod (pe_callTy call_int1 (by rfl) z_int (by decide +kernel) (pa_cons (pv 1) pa_nil)) pe_int) pe_int)))
      pss_nil)
    (pss_cons (ps_if (pt_cmpR op_eq (pv 2) pe_int (nomark _))
      (pss_one (ps_ret (pe_op op_sub (pe_op op_mod (pe_callTy call_int1 (by rfl) z_int (by decide +kernel) (pa_cons (pv 1) pa_nil)) pe_int) pe_int)))
      pss_nil)
    (pss_cons (ps_if (pt_cmpR op_eq (pv 2) pe_int (nomark _))
      (pss_one (ps_ret (pe_op op_sub (pe_op op_mod (pe_callTy call_int1 (by rfl) z_int (by decide +kernel) (pa_cons (pv 1) pa_nil)) pe_int) pe_int)))
      pss_nil)
    (pss_cons (ps_if (pt_cmpR op_eq (pv 2) pe_int (nomark _))
      (pss_one (ps_ret (pe_op op_sub (pe_op op_mod (pe_callTy call_int1 (by rfl) z_int (by decide +kernel) (pa_cons (pv 1) pa_nil)) pe_int) pe_int)))
      pss_nil)
    (pss_one (ps_ret (C8.pe_c c__law_text hr (by decide) (by rfl) (pa_cons (pe_op op_fdiv (pv 1) pe_int) (pa_cons (pe_op op_mod (pe_callTy call_int1 (by rfl) z_int (by decide +kernel) (pa_cons (pv 1) pa_nil)) pe_int) pa_nil))))))))))))), ?_⟩
  obtain ⟨n, rfl, q⟩ := h
  refine q_asg (v := .int (n / 8)) (by walk_at "ev") fun H1 e1 => ?_
  refine q_asg (v := .int (n % 8)) (by walk_at "ev") fun H2 e2 => ?_
  have x2 : Ex H H2 := e1.trans e2
  refine q_when (b := decide (V.int (n % 8) = V.int 0)) (by walk_at "et") (fun hb H3 e3 => s_ret (v := lawV n) ?_ fun H4 e4 => q H4 ((x2.trans e3).trans e4)) (fun hb H3 e3 => ?_)
  · refine ev_is ev_c ?_
    unfold lawV
    rw [if_pos (V.int.inj (of_decide_eq_true hb))]
  have n0 : ¬ n % 8 = 0 := fun e => of_decide_eq_false hb (by rw [e])
  refine q_when (b := decide (V.int (n % 8) = V.int 1)) (by walk_at "et") (fun hb H4 e4 => s_ret (v := lawV n) ?_ fun H5 e5 => q H5 (((x2.trans e3).trans e4).trans e5)) (fun hb H4 e4 => ?_)
  · refine ev_is (v := .bl (decide (V.int (n / 8 % 2) = V.int 0))) (by walk_at "ev") ?_
    unfold lawV
    rw [if_neg n0, if_pos (V.int.inj (of_decide_eq_true hb)), dec_int]
    congr 1
  have n1 : ¬ n % 8 = 1 := fun e => of_decide_eq_false hb (by rw [e])
  refine q_when (b := decide (V.int (n % 8) = V.int 2)) (by walk_at "et") (fun hb H5 e5 => s_ret (v := lawV n) ?_ fun H6 e6 => q H6 ((((x2.trans e3).trans e4).trans e5).trans e6)) (fun hb H5 e5 => ?_)
  · refine ev_is (v := .int (n / 8 % 3 - 1)) (by walk_at "ev") ?_
    unfold lawV
    rw [if_neg n0, if_neg n1, if_pos (V.int.inj (of_decide_eq_true hb))]
  have n2 : ¬ n % 8 = 2 := fun e => of_decide_eq_false hb (by rw [e])
  refine q_when (b := decide (V.int (n % 8) = V.int 3)) (by walk_at "et") (fun hb H6 e6 => s_ret (v := lawV n) ?_ fun H7 e7 => q H7 (((((x2.trans e3).trans e4).trans e5).trans e6).trans e7)) (fun hb H6 e6 => ?_)
  · refine ev_is (v := .int (n / 8 % 2000000000000001 - 1000000000000000)) (by walk_at "ev") ?_
    unfold lawV
    rw [if_neg n0, if_neg n1, if_neg n2, if_pos (V.int.inj (of_decide_eq_true hb))]
  have n3 : ¬ n % 8 = 3 := fun e => of_decide_eq_false hb (by rw [e])
  refine q_when (b := decide (V.int (n % 8) = V.int 4)) (by walk_at "et") (fun hb H7 e7 => s_ret (v := lawV n) ?_ fun H8 e8 => q H8 ((((((x2.trans e3).trans e4).trans e5).trans e6).trans e7).trans e8)) (fun hb H7 e7 => ?_)
  · refine ev_is (v := .int (n / 8 % 3652059 - 719162)) (by walk_at "ev") ?_
    unfold lawV
    rw [if_neg n0, if_neg n1, if_neg n2, if_neg n3, if_pos (V.int.inj (of_decide_eq_true hb))]
  have n4 : ¬ n % 8 = 4 := fun e => of_decide_eq_false hb (by rw [e])
  refine q_when (b := decide (V.int (n % 8) = V.int 5)) (by walk_at "et") (fun hb H8 e8 => s_ret (v := lawV n) ?_ fun H9 e9 => q H9 (((((((x2.trans e3).trans e4).trans e5).trans e6).trans e7).trans e8).trans e9)) (fun hb H8 e8 => ?_)
  · refine ev_is (v := .int (n / 8 % 40 - 20)) (by walk_at "ev") ?_
    unfold lawV
    rw [if_neg n0, if_neg n1, if_neg n2, if_neg n3, if_neg n4, if_pos (V.int.inj (of_decide_eq_true hb))]
  have n5 : ¬ n % 8 = 5 := fun e => of_decide_eq_false hb (by rw [e])
  refine s_ret (v := lawV n) ?_ fun H9 e9 => q H9 (((((((x2.trans e3).trans e4).trans e5).trans e6).trans e7).trans e8).trans e9)
  refine ev_is (ec_text (n := n / 8 / 13) (m := n / 8 % 13) (by walk_at "ev") (by walk_at "ev") (by omega) (by omega)) ?_
  unfold lawV
  rw [if_neg n0, if_neg n1, if_neg n2, if_neg n3, if_neg n4, if_neg n5]
theorem ec_value {σ : L2.St} {H : Hp} {ta : TE} {E : XK} {n : Int} (ha : Ev ta σ H (.int n)) : Ev (tCall (sp__law_value K) [] E (tCons ta tNil)) σ H (lawV n) :=
  ev_call (ea_cons ha ea_nil) fun H1 e Q q E => ⟨n, rfl, q⟩
end

/-! ### ranks -/
def kr : V → Int
  | .non => 0
  | .bl _ => 1
  | .int _ => 2
  | _ => 3
def payV : V → V
  | .non => .int 0
  | .bl b => .int (if b then 1 else 0)
  | x => x
def rkL (x : V) : List V := [.int (kr x), payV x]
def payD : V → PyData
  | .non => .int 0
  | .bl b => .int (if b then 1 else 0)
  | .int i => .int i
  | .str s => .str s
  | _ => .none
def rkDs (x : V) : List PyData := [.int (kr x), payD x]
def rkD (x : V) : PyData := .tuple (rkDs x)
/-- plain, and its signs are signs -/
inductive Ok : V → Prop where
  | non : Ok .non
  | bl (b : Bool) : Ok (.bl b)
  | int (i : Int) : Ok (.int i)
  | str (s : Str) (h : PyData.strOk s = true) : Ok (.str s)
theorem Ok.pl {x : V} (h : Ok x) : Pl x := by cases h <;> constructor
theorem strOk_S {l : List Nat} (h : ∀ c ∈ l, 32 ≤ c ∧ c ≤ 126) : PyData.strOk (SX.S l) = true := by
  unfold PyData.strOk
  rw [Array.all_eq_true']
  intro c hc
  have := h c (by simpa using hc)
  exact decide_eq_true (by omega)
theorem dp_pay {K : PySem.W.Frag} {H : Hp} {x : V} (h : Ok x) : Dp K H (payV x) (payD x) := by
  cases h with
  | non => exact .int 0
  | bl b => exact .int _
  | int i => exact .int i
  | str s _ => exact .str s
theorem dp_rks {K : PySem.W.Frag} {H : Hp} {x : V} (h : Ok x) : DpAll K H (rkL x) (rkDs x) := .cons (.int _) (.cons (dp_pay h) .nil)
theorem dp_rk {K : PySem.W.Frag} {H : Hp} {x : V} {p : Addr} (h : Ok x) (hp : H p = some (.tup (rkL x))) : Dp K H (.ref p) (rkD x) := .tup (st_of hp) (dp_rks h)
theorem lay_rk {x : V} (h : Ok x) : (rkD x).canLay0 = true := by
  cases h with
  | non => rfl
  | bl b => rfl
  | int i => rfl
  | str s hs =>
    show (true && (PyData.strOk s && true)) = true
    rw [hs]
    rfl
theorem dep_rk {x : V} (h : Ok x) : (rkD x).depth = 1 := by cases h <;> rfl
theorem shaped_rk {x : V} (h : Ok x) : SeqAt.shaped (rkD x) = true := by
  unfold SeqAt.shaped
  rw [lay_rk h, dep_rk h]
  rfl
theorem noL_rk {x : V} (h : Ok x) : noL (rkD x) = true := by cases h <;> rfl
theorem ord_rk {x y : V} (hx : Ok x) (hy : Ok y) : ordD (rkD x) (rkD y) = true := by
  have step : ∀ (a b : Int) (p q : PyData), (a = b → ordD p q = true) → ordD (.tuple [.int a, p]) (.tuple [.int b, q]) = true := by
    intro a b p q h
    rw [ordD, ordDs]
    split
    · rename_i e
      rw [ordDs]
      split
      · rfl
      · exact h (beq_iff_eq.mp (show (a == b) = true from e))
    · rfl
  refine step _ _ _ _ fun e => ?_
  cases hx <;> cases hy <;> first | rfl | (simp [kr] at e)
theorem lays_rk : ∀ {xs : List V}, (∀ x ∈ xs, Ok x) → PyData.canLayAll0 (xs.map rkD) = true
  | [], _ => rfl
  | x :: xs, h => by
    show ((rkD x).canLay0 && PyData.canLayAll0 (xs.map rkD)) = true
    rw [lay_rk (h x (List.mem_cons_self ..)), lays_rk fun y hy => h y (List.mem_cons_of_mem _ hy)]
    rfl
theorem deps_rk : ∀ {xs : List V}, (∀ x ∈ xs, Ok x) → PyData.depthAll (xs.map rkD) ≤ 1
  | [], _ => by show 0 ≤ 1; decide
  | x :: xs, h => by
    show max (rkD x).depth (PyData.depthAll (xs.map rkD)) ≤ 1
    rw [dep_rk (h x (List.mem_cons_self ..))]
    have := deps_rk fun y hy => h y (List.mem_cons_of_mem _ hy)
    omega
theorem shaped_row {xs : List V} (h : ∀ x ∈ xs, Ok x) : SeqAt.shaped (.tuple (xs.map rkD)) = true := by
  have hd := deps_rk h
  show (PyData.canLayAll0 (xs.map rkD) && decide (PyData.depthAll (xs.map rkD) + 1 ≤ 64)) = true
  rw [lays_rk h, decide_eq_true (by omega)]
  rfl
theorem ords_rk : ∀ {xs ys : List V}, (∀ x ∈ xs, Ok x) → (∀ y ∈ ys, Ok y) → ordDs (xs.map rkD) (ys.map rkD) = true
  | [], _, _, _ => by rw [List.map_nil, ordDs]
  | _ :: _, [], _, _ => rfl
  | x :: xs, y :: ys, h1, h2 => by
    rw [List.map_cons, List.map_cons, ordDs]
    split
    · exact ords_rk (fun z hz => h1 z (List.mem_cons_of_mem _ hz)) (fun z hz => h2 z (List.mem_cons_of_mem _ hz))
    · exact ord_rk (h1 x (List.mem_cons_self ..)) (h2 y (List.mem_cons_self ..))
def sp_kind_rank (K : PySem.W.Frag) : Sp := fun vs H Q _ => ∃ x : V, vs = [x] ∧ Ok x ∧ ∀ H', Ex H H' → Q (.int (kr x)) H'
def sp_is_integer (K : PySem.W.Frag) : Sp := fun vs H Q _ => ∃ x : V, vs = [x] ∧ Pl x ∧ ∀ H', Ex H H' → Q (.bl (isInt x)) H'
def sp__law_is_integer (K : PySem.W.Frag) : Sp := fun vs H Q _ => ∃ x : V, vs = [x] ∧ Pl x ∧ ∀ H', Ex H H' → Q (.bl (isInt x)) H'
def sp_rank (K : PySem.W.Frag) : Sp := fun vs H Q _ => ∃ x : V, vs = [x] ∧ Ok x ∧ ∀ p H', H p = none → Ex H H' → H' p = some (.tup (rkL x)) → Q (.ref p) H'
def sp__law_rank (K : PySem.W.Frag) : Sp := fun vs H Q _ => ∃ x : V, vs = [x] ∧ Ok x ∧ ∀ p H', H p = none → Ex H H' → H' p = some (.tup (rkL x)) → Q (.ref p) H'
def sp_same (K : PySem.W.Frag) : Sp := fun vs H Q _ => ∃ x y : V, vs = [x, y] ∧ Ok x ∧ Ok y ∧ ∀ H', Ex H H' → Q (.bl (PyData.eqv (rkD x) (rkD y))) H'
def sp_before (K : PySem.W.Frag) : Sp := fun vs H Q _ => ∃ x y : V, vs = [x, y] ∧ Ok x ∧ Ok y ∧ ∀ H', Ex H H' → Q (.bl (ltD (rkD x) (rkD y))) H'
section
variable {P : Program} {w : World} {K : PySem.W.Frag} {mg : Str → Option Value} {base : Heap}
section
variable {σ : L2.St} {H : Hp} {ta tb tc : TE} {E : XK} {x y : V}
theorem ec_isint0 (ha : Ev ta σ H x) (h : Pl x) : Ev (tCall (sp_is_integer K) [] E (tCons ta tNil)) σ H (.bl (isInt x)) := ev_call (ea_cons ha ea_nil) fun H1 e Q q E => ⟨x, rfl, h, q⟩
theorem ec_isint (ha : Ev ta σ H x) (h : Pl x) : Ev (tCall (sp__law_is_integer K) [] E (tCons ta tNil)) σ H (.bl (isInt x)) := ev_call (ea_cons ha ea_nil) fun H1 e Q q E => ⟨x, rfl, h, q⟩
theorem ec_kr (ha : Ev ta σ H x) (h : Ok x) : Ev (tCall (sp_kind_rank K) [] E (tCons ta tNil)) σ H (.int (kr x)) := ev_call (ea_cons ha ea_nil) fun H1 e Q q E => ⟨x, rfl, h, q⟩
theorem ec_rank (ha : Ev ta σ H x) (h : Ok x) : EvU (tCall (sp_rank K) [] E (tCons ta tNil)) σ H (rkL x) := eu_call (ea_cons ha ea_nil) fun H1 e Q q E => ⟨x, rfl, h, q⟩
theorem ec_lrank (ha : Ev ta σ H x) (h : Ok x) : EvU (tCall (sp__law_rank K) [] E (tCons ta tNil)) σ H (rkL x) := eu_call (ea_cons ha ea_nil) fun H1 e Q q E => ⟨x, rfl, h, q⟩
theorem ud_rk (h : EvU ta σ H (rkL x)) (hx : Ok x) : EvUD K ta σ H (rkDs x) := fun H1 e Q q => h H1 e _ fun p H2 hp e2 h2 => q p H2 _ hp e2 h2 (dp_rks hx)
theorem ed_rk (h : EvU ta σ H (rkL x)) (hx : Ok x) : EvD K ta σ H (rkD x) := ed_tupU (ud_rk h hx)
theorem ec_same (ha : Ev ta σ H x) (hb : Ev tb σ H y) (h1 : Ok x) (h2 : Ok y) : Ev (tCall (sp_same K) [] E (tCons ta (tCons tb tNil))) σ H (.bl (PyData.eqv (rkD x) (rkD y))) := ev_call (ea_cons ha (ea_cons hb ea_nil)) fun H1 e Q q E => ⟨x, y, rfl, h1, h2, q⟩
theorem ec_before (ha : Ev ta σ H x) (hb : Ev tb σ H y) (h1 : Ok x) (h2 : Ok y) : Ev (tCall (sp_before K) [] E (tCons ta (tCons tb tNil))) σ H (.bl (ltD (rkD x) (rkD y))) := ev_call (ea_cons ha (ea_cons hb ea_nil)) fun H1 e Q q E => ⟨x, y, rfl, h1, h2, q⟩
end
theorem ok_kind_rank (D : Dn K mg "kind_rank" s_kind_rank ["value"]) (z_bool : mg "bool" = none) (z_int : mg "int" = none) (z_isinstance : mg "isinstance" = none) :
    C8.Cal P w K mg base 1 "kind_rank" (sp_kind_rank K) [] := by
  refine cal_of D sc_kind_rank (fun vs H Q E h => ?_) (fun f cdv A outer s H vs Q E hr h => ?_)
  · obtain ⟨_, rfl, _⟩ := h
    rfl
  refine ⟨_, (pss_cons (ps_if (pt_cmpR op_isN (pv 0) pe_non (nomark _))
      (pss_one (ps_ret pe_int))
      pss_nil)
    (pss_cons (ps_if (pt_val (pe_callB call_isi (by rfl) z_isinstance (by decide +kernel) (pa_cons (pv 0) (pa_cons (pe_bltn (v := .ty "bool") (u := .type "bool") rfl z_bool (by decide +kernel) rfl) pa_nil))))
      (pss_one (ps_ret pe_int))
      pss_nil)
    (pss_cons (ps_if (pt_val (pe_callB call_isi (by rfl) z_isinstance (by decide +kernel) (pa_cons (pv 0) (pa_cons (pe_bltn (v := .ty "int") (u := .type "int") rfl z_int (by decide +kernel) rfl) pa_nil))))
      (pss_one (ps_ret pe_int))
      pss_nil)
    (pss_one (ps_ret pe_int))))), ?_⟩
  obtain ⟨x, rfl, hx, q⟩ := h
  refine q_when (b := decide (x = .non)) (by walk_at "et") (fun hb H1 e1 => s_ret (v := .int (kr x)) ?_ fun H2 e2 => q _ (e1.trans e2)) fun hb H1 e1 => ?_
  · rw [of_decide_eq_true hb]
    exact ev_c
  cases hx with
  | non => exact absurd hb (by decide)
  | bl b => exact q_when (b := true) (et_B (ev_isiP (ev_var rfl) (.bl b) (by show kitB "bool" "bool" = some true; decide +kernel))) (fun _ H2 e2 => s_ret ev_c fun H3 e3 => q _ ((e1.trans e2).trans e3)) fun hb => nomatch hb
  | int i => exact q_when (b := false) (et_B (ev_isiP (ev_var rfl) (.int i) (by show kitB "int" "bool" = some false; decide +kernel))) (fun hb => nomatch hb) fun _ H2 e2 => q_when (b := true) (et_B (ev_isiP (ev_var rfl) (.int i) (by show kitB "int" "int" = some true; decide +kernel))) (fun _ H3 e3 => s_ret ev_c fun H4 e4 => q _ (((e1.trans e2).trans e3).trans e4)) fun hb => nomatch hb
  | str s hs => exact q_when (b := false) (et_B (ev_isiP (ev_var rfl) (.str s) (by show kitB "str" "bool" = some false; decide +kernel))) (fun hb => nomatch hb) fun _ H2 e2 => q_when (b := false) (et_B (ev_isiP (ev_var rfl) (.str s) (by show kitB "str" "int" = some false; decide +kernel))) (fun hb => nomatch hb) fun _ H3 e3 => s_ret ev_c fun H4 e4 => q _ (((e1.trans e2).trans e3).trans e4)
theorem ok_is_integer (D : Dn K mg "is_integer" s_is_integer ["value"]) (z_bool : mg "bool" = none) (z_int : mg "int" = none) (z_isinstance : mg "isinstance" = none) :
    C8.Cal P w K mg base 1 "is_integer" (sp_is_integer K) [] := by
  refine cal_of D sc_is_integer (fun vs H Q E h => ?_) (fun f cdv A outer s H vs Q E hr h => ?_)
  · obtain ⟨_, rfl, _⟩ := h
    rfl
  refine ⟨_, (pss_one (ps_ret (pe_and (pe_callB call_isi (by rfl) z_isinstance (by decide +kernel) (pa_cons (pv 0) (pa_cons (pe_bltn (v := .ty "int") (u := .type "int") rfl z_int (by decide +kernel) rfl) pa_nil))) (pe_one (pe_not (pe_callB call_isi (by rfl) z_isinstance (by decide +kernel) (pa_cons (pv 0) (pa_cons (pe_bltn (v := .ty "bool") (u := .type "bool") rfl z_bool (by decide +kernel) rfl) pa_nil)))))))), ?_⟩
  obtain ⟨x, rfl, hx, q⟩ := h
  exact s_ret (ev_isInt (ev_var rfl) (ev_var rfl) hx) fun H2 e2 => q _ e2
theorem ok__law_is_integer (D : Dn K mg "_law_is_integer" s__law_is_integer ["value"]) (z_bool : mg "bool" = none) (z_int : mg "int" = none) (z_isinstance : mg "isinstance" = none) :
    C8.Cal P w K mg base 1 "_law_is_integer" (sp__law_is_integer K) [] := by
  refine cal_of D sc__law_is_integer (fun vs H Q E h => ?_) (fun f cdv A outer s H vs Q E hr h => ?_)
  · obtain ⟨_, rfl, _⟩ := h
    rfl
  refine ⟨_, (pss_one (ps_ret (pe_and (pe_callB call_isi (by rfl) z_isinstance (by decide +kernel) (pa_cons (pv 0) (pa_cons (pe_bltn (v := .ty "int") (u := .type "int") rfl z_int (by decide +kernel) rfl) pa_nil))) (pe_one (pe_not (pe_callB call_isi (by rfl) z_isinstance (by decide +kernel) (pa_cons (pv 0) (pa_cons (pe_bltn (v := .ty "bool") (u := .type "bool") rfl z_bool (by decide +kernel) rfl) pa_nil)))))))), ?_⟩
  obtain ⟨x, rfl, hx, q⟩ := h
  exact s_ret (ev_isInt (ev_var rfl) (ev_var rfl) hx) fun H2 e2 => q _ e2
theorem ok_rank (D : Dn K mg "rank" s_rank ["value"]) (c_kind_rank : C8.Cal P w K mg base 1 "kind_rank" (sp_kind_rank K) []) (z_int : mg "int" = none) :
    C8.Cal P w K mg base 2 "rank" (sp_rank K) [] := by
  refine cal_of D sc_rank (fun vs H Q E h => ?_) (fun f cdv A outer s H vs Q E hr h => ?_)
  · obtain ⟨_, rfl, _⟩ := h
    rfl
  refine ⟨_, (pss_cons (ps_set (i := 1) sc_rank.nd rfl (.inl rfl) (C8.pe_c c_kind_rank hr (by decide) (by rfl) (pa_cons (pv 0) pa_nil)))
    (pss_cons (ps_if (pt_cmpR op_eq (pv 1) pe_int (nomark _))
      (pss_one (ps_ret (pe_tup (pa_cons pe_int (pa_cons pe_int pa_nil)))))
      pss_nil)
    (pss_cons (ps_if (pt_cmpR op_eq (pv 1) pe_int (nomark _))
      (pss_one (ps_ret (pe_tup (pa_cons pe_int (pa_cons (pe_callTy call_int1 (by rfl) z_int (by decide +kernel) (pa_cons (pv 0) pa_nil)) pa_nil)))))
      pss_nil)
    (pss_one (ps_ret (pe_tup (pa_cons (pv 1) (pa_cons (pv 0) pa_nil)))))))), ?_⟩
  obtain ⟨x, rfl, hx, q⟩ := h
  refine q_asg (ec_kr (ev_var rfl) hx) fun H1 e1 => ?_
  refine q_when (b := decide (V.int (kr x) = V.int 0)) (by walk_at "et") (fun hb H2 e2 => s_retU (xs := rkL x) ?_ fun p H3 hp e3 h3 => q p H3 (fresh_back (e1.trans e2) hp) ((e1.trans e2).trans e3) h3) fun hb H2 e2 => ?_
  · cases hx with
    | non => exact eu_tup (ea_cons ev_c (ea_cons ev_c ea_nil)) (by show 2 ≤ 100000; decide)
    | _ => simp [kr] at hb
  refine q_when (b := decide (V.int (kr x) = V.int 1)) (by walk_at "et") (fun hb H3 e3 => s_retU (xs := rkL x) ?_ fun p H4 hp e4 h4 => q p H4 (fresh_back ((e1.trans e2).trans e3) hp) (((e1.trans e2).trans e3).trans e4) h4) fun hb H3 e3 => s_retU (xs := rkL x) ?_ fun p H4 hp e4 h4 => q p H4 (fresh_back ((e1.trans e2).trans e3) hp) (((e1.trans e2).trans e3).trans e4) h4
  · cases hx with
    | bl b => exact eu_tup (ea_cons ev_c (ea_cons (ev_intB (ev_var rfl)) ea_nil)) (by show 2 ≤ 100000; decide)
    | _ => simp [kr] at hb
  · cases hx with
    | non => exact absurd ‹decide (V.int (kr .non) = V.int 0) = false› (by decide)
    | bl b => exact absurd ‹decide (V.int (kr (.bl b)) = V.int 1) = false› (by show ¬ decide (V.int 1 = V.int 1) = false; decide)
    | int i => exact eu_tup (ea_cons (ev_var rfl) (ea_cons (ev_var rfl) ea_nil)) (by show 2 ≤ 100000; decide)
    | str s hs => exact eu_tup (ea_cons (ev_var rfl) (ea_cons (ev_var rfl) ea_nil)) (by show 2 ≤ 100000; decide)
theorem ok__law_rank (D : Dn K mg "_law_rank" s__law_rank ["value"]) (z_isinstance : mg "isinstance" = none) (z_str : mg "str" = none) :
    C8.Cal P w K mg base 1 "_law_rank" (sp__law_rank K) [] := by
  refine cal_of D sc__law_rank (fun vs H Q E h => ?_) (fun f cdv A outer s H vs Q E hr h => ?_)
  · obtain ⟨_, rfl, _⟩ := h
    rfl
  refine ⟨_, (pss_cons (ps_if (pt_cmpR op_isN (pv 0) pe_non (nomark _))
      (pss_one (ps_ret (pe_tup (pa_cons pe_int (pa_cons pe_int pa_nil)))))
      pss_nil)
    (pss_cons (ps_if (pt_cmpR op_isTF (pv 0) pe_bl (nomark _))
      (pss_one (ps_ret (pe_tup (pa_cons pe_int (pa_cons pe_int pa_nil)))))
      pss_nil)
    (pss_cons (ps_if (pt_cmpR op_isTF (pv 0) pe_bl (nomark _))
      (pss_one (ps_ret (pe_tup (pa_cons pe_int (pa_cons pe_int pa_nil)))))
      pss_nil)
    (pss_cons (ps_if (pt_val (pe_callB call_isi (by rfl) z_isinstance (by decide +kernel) (pa_cons (pv 0) (pa_cons (pe_bltn (v := .ty "str") (u := .type "str") rfl z_str (by decide +kernel) rfl) pa_nil))))
      (pss_one (ps_ret (pe_tup (pa_cons pe_int (pa_cons (pv 0) pa_nil)))))
      pss_nil)
    (pss_one (ps_ret (pe_tup (pa_cons pe_int (pa_cons (pv 0) pa_nil))))))))), ?_⟩
  obtain ⟨x, rfl, hx, q⟩ := h
  have one : ∀ {H0 H1 : Hp} {σ : L2.St} {ta tb : TE}, Ex H H0 → Ev ta σ H0 (.int (kr x)) → Ev tb σ H0 (payV x) → tRet (tTup (tCons ta (tCons tb tNil))) { nx := fun _ H' => Q .non H', rt := Q } σ H0 := fun {H0 H1 σ ta tb} e0 ha hb =>
    s_retU (xs := rkL x) (eu_tup (ea_cons ha (ea_cons hb ea_nil)) (by show 2 ≤ 100000; decide)) fun p H3 hp e3 h3 => q p H3 (fresh_back e0 hp) (e0.trans e3) h3
  cases hx with
  | non => exact q_when (b := true) (et_test (ev_op (ev_var rfl) ev_c rv_isN)) (fun _ H1 e1 => one (H1 := H) e1 ev_c ev_c) fun hb => nomatch hb
  | bl b =>
    refine q_when (b := false) (et_test (ev_op (ev_var rfl) ev_c rv_isN)) (fun hb => nomatch hb) fun _ H1 e1 => ?_
    refine q_when (b := decide (V.bl b = V.bl true)) (et_test (ev_op (ev_var rfl) ev_c rv_isT)) (fun hb H2 e2 => one (H1 := H) (e1.trans e2) ev_c ?_) fun hb H2 e2 => ?_
    · rw [V.bl.inj (of_decide_eq_true hb)]
      exact ev_c
    have hf : b = false := by
      cases b with
      | true => exact absurd hb (by decide)
      | false => rfl
    subst hf
    exact q_when (b := true) (et_test (ev_op (ev_var rfl) ev_c rv_isT)) (fun _ H3 e3 => one (H1 := H) ((e1.trans e2).trans e3) ev_c ev_c) fun hb => nomatch hb
  | int i =>
    refine q_when (b := false) (et_test (ev_op (ev_var rfl) ev_c rv_isN)) (fun hb => nomatch hb) fun _ H1 e1 => ?_
    refine q_when (b := false) (et_test (ev_op (ev_var rfl) ev_c rv_isT)) (fun hb => nomatch hb) fun _ H2 e2 => ?_
    refine q_when (b := false) (et_test (ev_op (ev_var rfl) ev_c rv_isT)) (fun hb => nomatch hb) fun _ H3 e3 => ?_
    refine q_when (b := false) (et_B (ev_isiP (ev_var rfl) (.int i) (by show kitB "int" "str" = some false; decide +kernel))) (fun hb => nomatch hb) fun _ H4 e4 => one (H1 := H) (((e1.trans e2).trans e3).trans e4) ev_c (ev_var rfl)
  | str s hs =>
    refine q_when (b := false) (et_test (ev_op (ev_var rfl) ev_c rv_isN)) (fun hb => nomatch hb) fun _ H1 e1 => ?_
    refine q_when (b := false) (et_test (ev_op (ev_var rfl) ev_c rv_isT)) (fun hb => nomatch hb) fun _ H2 e2 => ?_
    refine q_when (b := false) (et_test (ev_op (ev_var rfl) ev_c rv_isT)) (fun hb => nomatch hb) fun _ H3 e3 => ?_
    refine q_when (b := true) (et_B (ev_isiP (ev_var rfl) (.str s) (by show kitB "str" "str" = some true; decide +kernel))) (fun _ H4 e4 => one (H1 := H) (((e1.trans e2).trans e3).trans e4) ev_c (ev_var rfl)) fun hb => nomatch hb
theorem ok_same (D : Dn K mg "same" s_same ["first", "second"]) (c_rank : C8.Cal P w K mg base 2 "rank" (sp_rank K) []) :
    C8.Cal P w K mg base 3 "same" (sp_same K) [] := by
  refine cal_of D sc_same (fun vs H Q E h => ?_) (fun f cdv A outer s H vs Q E hr h => ?_)
  · obtain ⟨_, _, rfl, _⟩ := h
    rfl
  refine ⟨_, (pss_one (ps_ret (pe_cmpR (op_eqD (hu64 hr)) (C8.pe_c c_rank hr (by decide) (by rfl) (pa_cons (pv 0) pa_nil)) (C8.pe_c c_rank hr (by decide) (by rfl) (pa_cons (pv 1) pa_nil)) (nomark _)))), ?_⟩
  obtain ⟨x, y, rfl, hx, hy, q⟩ := h
  exact s_ret (ev_eqD (ed_rk (ec_rank (ev_var rfl) hx) hx) (ed_rk (ec_rank (ev_var rfl) hy) hy) (shaped_rk hx) (shaped_rk hy)) fun H2 e2 => q _ e2
theorem ok_before (D : Dn K mg "before" s_before ["first", "second"]) (c_rank : C8.Cal P w K mg base 2 "rank" (sp_rank K) []) :
    C8.Cal P w K mg base 3 "before" (sp_before K) [] := by
  refine cal_of D sc_before (fun vs H Q E h => ?_) (fun f cdv A outer s H vs Q E hr h => ?_)
  · obtain ⟨_, _, rfl, _⟩ := h
    rfl
  refine ⟨_, (pss_one (ps_ret (pe_cmpR (op_ltD (hu64 hr)) (C8.pe_c c_rank hr (by decide) (by rfl) (pa_cons (pv 0) pa_nil)) (C8.pe_c c_rank hr (by decide) (by rfl) (pa_cons (pv 1) pa_nil)) (nomark _)))), ?_⟩
  obtain ⟨x, y, rfl, hx, hy, q⟩ := h
  exact s_ret (ev_ltD (ed_rk (ec_rank (ev_var rfl) hx) hx) (ed_rk (ec_rank (ev_var rfl) hy) hy) (shaped_rk hx) (shaped_rk hy) (ord_rk hx hy) (by rw [dep_rk hx]; decide)) fun H2 e2 => q _ e2
end

/-! ### rows -/
theorem map_get {f : V → PyData} : ∀ xs : List V, (List.range xs.length).map (fun i => f (xs.getD i .non)) = xs.map f := by
  intro xs
  apply List.ext_getElem?
  intro i
  rw [List.getElem?_map, List.getElem?_map]
  by_cases h : i < xs.length
  · rw [List.getElem?_range h, List.getElem?_eq_getElem h]
    show some (f (xs.getD i .non)) = some (f xs[i])
    rw [List.getD_eq_getElem?_getD, List.getElem?_eq_getElem h] <;> rfl
  · rw [List.getElem?_eq_none (by rw [List.length_range]; omega), List.getElem?_eq_none (by omega)]
    rfl
def Row (xs : List V) : Prop := (∀ x ∈ xs, Ok x) ∧ xs.length ≤ 1000
def rowD (xs : List V) : PyData := .tuple (xs.map rkD)
theorem Row.getD {xs : List V} (h : Row xs) (i : Nat) : Ok (xs.getD i .non) := by
  rw [List.getD_eq_getElem?_getD]
  by_cases hi : i < xs.length
  · rw [List.getElem?_eq_getElem hi]
    exact h.1 _ (List.getElem_mem hi)
  · rw [List.getElem?_eq_none (by omega)]
    exact .non
theorem eqv_rk {x y : V} : PyData.eqv (rkD x) (rkD y) = ((kr x == kr y) && (PyData.eqv (payD x) (payD y) && true)) := rfl
theorem eqv_pay {x y : V} (hx : Ok x) (hy : Ok y) (e : kr x = kr y) : PyData.eqv (payD x) (payD y) = decide (payV x = payV y) := by
  cases hx <;> cases hy <;> first | (simp [kr] at e; done) | (simp [payD, payV, PyData.eqv]; done) | skip
  · rename_i a b; cases a <;> cases b <;> rfl
  · rename_i a b; show (a == b) = decide (V.int a = V.int b); rw [dec_int]
  · rename_i a _ b _; show (a == b) = decide (V.str a = V.str b); rw [dec_str]
/-- the first step of the order of two rows -/
theorem lt_cons (x y : V) (xs ys : List V) : ltDs (rkD x :: xs.map rkD) (rkD y :: ys.map rkD) = if kr x = kr y then (if PyData.eqv (payD x) (payD y) = true then ltDs (xs.map rkD) (ys.map rkD) else ltD (payD x) (payD y)) else decide (kr x < kr y) := by
  rw [ltDs, eqv_rk]
  by_cases e : kr x = kr y
  · rw [if_pos e, beq_iff_eq.mpr e, Bool.and_true, Bool.true_and]
    split
    · rfl
    · rename_i h
      rw [show rkD x = .tuple [.int (kr x), payD x] from rfl, show rkD y = .tuple [.int (kr y), payD y] from rfl, ltD, ltDs, if_pos (show PyData.eqv (.int (kr x)) (.int (kr y)) = true from beq_iff_eq.mpr e), ltDs, if_neg h]
  · have nb : (kr x == kr y) = false := beq_eq_false_iff_ne.mpr e
    rw [if_neg e, nb, Bool.false_and, if_neg (by decide), show rkD x = .tuple [.int (kr x), payD x] from rfl, show rkD y = .tuple [.int (kr y), payD y] from rfl, ltD, ltDs, if_neg (by show ¬ (kr x == kr y) = true; rw [nb]; decide), ltD]
theorem str_total : ∀ a b : List Nat, a ≠ b → (decide (a < b) || decide (b < a)) = true := by
  intro a
  induction a with
  | nil =>
    intro b h
    cases b with
    | nil => exact absurd rfl h
    | cons y b => simp
  | cons x a ih =>
    intro b h
    cases b with
    | nil => simp
    | cons y b =>
      simp only [List.cons_lt_cons_iff, Bool.or_eq_true, decide_eq_true_eq]
      rcases Nat.lt_trichotomy x y with l | e | g
      · exact .inl (.inl l)
      · subst e
        have := ih b fun z => h (by rw [z])
        simp only [Bool.or_eq_true, decide_eq_true_eq] at this
        rcases this with t | t
        · exact .inl (.inr ⟨rfl, t⟩)
        · exact .inr (.inr ⟨rfl, t⟩)
      · exact .inr (.inl g)
theorem str_irr : ∀ a : List Nat, ¬ a < a := by
  intro a
  induction a with
  | nil => simp
  | cons x a ih => simp [List.cons_lt_cons_iff, ih]
theorem pay_total {x y : V} (hx : Ok x) (hy : Ok y) (e : kr x = kr y) (n : PyData.eqv (payD x) (payD y) = false) : (ltD (payD x) (payD y) || ltD (payD y) (payD x)) = true := by
  have two : ∀ a b : Int, (a == b) = false → (decide (a < b) || decide (b < a)) = true := by
    intro a b h
    have := beq_eq_false_iff_ne.mp h
    rw [Bool.or_eq_true, decide_eq_true_eq, decide_eq_true_eq]
    omega
  cases hx <;> cases hy <;> first | (simp [kr] at e; done) | skip
  · exact absurd n (by decide)
  · exact two _ _ n
  · exact two _ _ n
  · rename_i a _ b _
    refine str_total _ _ fun z => ?_
    have n' : (a == b) = false := n
    exact beq_eq_false_iff_ne.mp n' (PyProof.Rows.ext_toList z)
theorem pay_not {x y : V} (hx : Ok x) (hy : Ok y) (e : kr x = kr y) (n : PyData.eqv (payD x) (payD y) = true) : PyData.eqv (payD y) (payD x) = true := by
  rw [eqv_pay hx hy e, decide_eq_true_eq] at n
  rw [eqv_pay hy hx e.symm, decide_eq_true_eq]
  exact n.symm
/-- equal rows are those of which neither is before the other -/
theorem row_alike : ∀ {xs ys : List V}, (∀ x ∈ xs, Ok x) → (∀ y ∈ ys, Ok y) → PyData.eqv (rowD xs) (rowD ys) = (!ltDs (xs.map rkD) (ys.map rkD) && !ltDs (ys.map rkD) (xs.map rkD))
  | [], [], _, _ => rfl
  | [], _ :: _, _, _ => rfl
  | _ :: _, [], _, _ => rfl
  | x :: xs, y :: ys, h1, h2 => by
    have ih := row_alike (fun z hz => h1 z (List.mem_cons_of_mem _ hz)) (fun z hz => h2 z (List.mem_cons_of_mem _ hz)) (xs := xs) (ys := ys)
    have hx := h1 x (List.mem_cons_self ..)
    have hy := h2 y (List.mem_cons_self ..)
    have e0 : PyData.eqv (rowD (x :: xs)) (rowD (y :: ys)) = (PyData.eqv (rkD x) (rkD y) && PyData.eqv (rowD xs) (rowD ys)) := rfl
    rw [e0, ih, List.map_cons, List.map_cons, lt_cons, lt_cons, eqv_rk]
    by_cases e : kr x = kr y
    · rw [if_pos e, if_pos e.symm, beq_iff_eq.mpr e]
      cases n : PyData.eqv (payD x) (payD y) with
      | true =>
        rw [pay_not hx hy e n, if_pos rfl, if_pos rfl]
        rfl
      | false =>
        have n2 : PyData.eqv (payD y) (payD x) = false := by
          cases z : PyData.eqv (payD y) (payD x) with
          | false => rfl
          | true => rw [pay_not hy hx e.symm z] at n; cases n
        have t := pay_total hx hy e n
        rw [n2, if_neg (by decide), if_neg (by decide)]
        cases a : ltD (payD x) (payD y) <;> cases b : ltD (payD y) (payD x) <;> first | rfl | (rw [a, b] at t; cases t)
    · rw [if_neg e, if_neg fun z => e z.symm, show (kr x == kr y) = false from beq_eq_false_iff_ne.mpr e]
      by_cases l : kr x < kr y
      · rw [decide_eq_true l]
        rfl
      · rw [decide_eq_false l, decide_eq_true (show kr y < kr x by omega)]
        rfl
theorem ltDs_cons (d e : PyData) (ds es : List PyData) : ltDs (d :: ds) (e :: es) = if PyData.eqv d e = true then ltDs ds es else ltD d e := by rw [ltDs]
theorem one_lt {x y : V} (hx : Ok x) (hy : Ok y) : ltD (rowD [x]) (rowD [y]) = ltD (rkD x) (rkD y) := by
  show ltDs [rkD x] [rkD y] = _
  have h := lt_cons x y [] []
  rw [List.map_nil] at h
  rw [h]
  show _ = ltDs [.int (kr x), payD x] [.int (kr y), payD y]
  rw [ltDs_cons]
  by_cases e : kr x = kr y
  · rw [if_pos e, if_pos (show PyData.eqv (.int (kr x)) (.int (kr y)) = true from beq_iff_eq.mpr e), ltDs_cons]
  · rw [if_neg e, if_neg (show ¬ PyData.eqv (.int (kr x)) (.int (kr y)) = true from fun z => e (beq_iff_eq.mp z)), ltD]
def sp_row_rank (K : PySem.W.Frag) : Sp := fun vs H Q _ => ∃ (a : Addr) (xs : List V), vs = [.ref a] ∧ SqL K H a xs ∧ Row xs ∧ ∀ p H' ys, H p = none → Ex H H' → H' p = some (.tup ys) → DpAll K H' ys (xs.map rkD) → Q (.ref p) H'
def sp_same_rows (K : PySem.W.Frag) : Sp := fun vs H Q _ => ∃ (a b : Addr) (xs ys : List V), vs = [.ref a, .ref b] ∧ SqL K H a xs ∧ SqL K H b ys ∧ Row xs ∧ Row ys ∧ ∀ H', Ex H H' → Q (.bl (PyData.eqv (rowD xs) (rowD ys))) H'
def sp_row_before (K : PySem.W.Frag) : Sp := fun vs H Q _ => ∃ (a b : Addr) (xs ys : List V), vs = [.ref a, .ref b] ∧ SqL K H a xs ∧ SqL K H b ys ∧ Row xs ∧ Row ys ∧ ∀ H', Ex H H' → Q (.bl (ltD (rowD xs) (rowD ys))) H'
def sp__law_flag (K : PySem.W.Frag) : Sp := fun vs H Q _ => ∃ b : Bool, vs = [.bl b, .bl b] ∧ ∀ H', Ex H H' → Q (.bl true) H'
def sp__law_less (K : PySem.W.Frag) : Sp := fun vs H Q _ => ∃ (a b : Addr) (xs ys : List V), vs = [.ref a, .ref b] ∧ SqL K H a xs ∧ SqL K H b ys ∧ Row xs ∧ Row ys ∧ ∀ H', Ex H H' → Q (.bl (ltD (rowD xs) (rowD ys))) H'
def sp__law_pair_right (K : PySem.W.Frag) : Sp := fun vs H Q _ => ∃ x y : V, vs = [x, y] ∧ Ok x ∧ Ok y ∧ ∀ H', Ex H H' → Q (.bl true) H'
def sp__law_one_right (K : PySem.W.Frag) : Sp := fun vs H Q _ => ∃ x : V, vs = [x] ∧ Ok x ∧ ∀ H', Ex H H' → Q (.bl true) H'
theorem s_retUD {K : PySem.W.Frag} {te : TE} {σ : L2.St} {H : Hp} {D : Ends} {ds : List PyData} (h : EvUD K te σ H ds) (k : ∀ p H1 ys, H p = none → Ex H H1 → H1 p = some (.tup ys) → DpAll K H1 ys ds → D.rt (.ref p) H1) : tRet te D σ H := h H (Ex.refl H) _ k
def rLtIS : R2 := fun x y H Q => rI0 (fun i j => .bl (decide (i < j))) x y H Q ∨ (∃ i j, x = .str i ∧ y = .str j ∧ Q (.bl (decide (i.cps.toList < j.cps.toList))) H)
theorem rv_ltP {x y : V} {H : Hp} (hx : Ok x) (hy : Ok y) (e : kr x = kr y) : RV rLtIS (payV x) (payV y) H (.bl (ltD (payD x) (payD y))) := fun H1 _ Q q => by
  cases hx <;> cases hy <;> first | (simp [kr] at e; done) | exact .inl ⟨_, _, rfl, rfl, q H1 (Ex.refl H1)⟩ | exact .inr ⟨_, _, rfl, rfl, q H1 (Ex.refl H1)⟩
theorem scal_pay {x y : V} (hx : Ok x) (hy : Ok y) (e : kr x = kr y) : scal (payV x) (payV y) = true := by
  cases hx <;> cases hy <;> first | (simp [kr] at e; done) | rfl
section
variable {P : Program} {w : World} {K : PySem.W.Frag} {mg : Str → Option Value} {base : Heap}
section
variable {σ : L2.St} {H : Hp} {ta tb : TE} {E : XK} {a b : Addr} {xs ys : List V}
theorem ec_rr (ha : Ev ta σ H (.ref a)) (h1 : SqL K H a xs) (r1 : Row xs) : EvUD K (tCall (sp_row_rank K) [] E (tCons ta tNil)) σ H (xs.map rkD) := ud_call (ea_cons ha ea_nil) fun H1 e Q q E => ⟨a, xs, rfl, ex_l e h1, r1, fun p H' ys hp e' h' hd => q p H' ys hp e' h' hd⟩
theorem ec_sr (ha : Ev ta σ H (.ref a)) (hb : Ev tb σ H (.ref b)) (h1 : SqL K H a xs) (h2 : SqL K H b ys) (r1 : Row xs) (r2 : Row ys) : Ev (tCall (sp_same_rows K) [] E (tCons ta (tCons tb tNil))) σ H (.bl (PyData.eqv (rowD xs) (rowD ys))) := ev_call (ea_cons ha (ea_cons hb ea_nil)) fun H1 e Q q E => ⟨a, b, xs, ys, rfl, ex_l e h1, ex_l e h2, r1, r2, q⟩
theorem ec_rb (ha : Ev ta σ H (.ref a)) (hb : Ev tb σ H (.ref b)) (h1 : SqL K H a xs) (h2 : SqL K H b ys) (r1 : Row xs) (r2 : Row ys) : Ev (tCall (sp_row_before K) [] E (tCons ta (tCons tb tNil))) σ H (.bl (ltD (rowD xs) (rowD ys))) := ev_call (ea_cons ha (ea_cons hb ea_nil)) fun H1 e Q q E => ⟨a, b, xs, ys, rfl, ex_l e h1, ex_l e h2, r1, r2, q⟩
theorem ec_less (ha : Ev ta σ H (.ref a)) (hb : Ev tb σ H (.ref b)) (h1 : SqL K H a xs) (h2 : SqL K H b ys) (r1 : Row xs) (r2 : Row ys) : Ev (tCall (sp__law_less K) [] E (tCons ta (tCons tb tNil))) σ H (.bl (ltD (rowD xs) (rowD ys))) := ev_call (ea_cons ha (ea_cons hb ea_nil)) fun H1 e Q q E => ⟨a, b, xs, ys, rfl, ex_l e h1, ex_l e h2, r1, r2, q⟩
theorem ec_lessN (ha : EvL ta σ H xs) (hb : EvL tb σ H ys) (r1 : Row xs) (r2 : Row ys) : Ev (tCall (sp__law_less K) [] E (tCons ta (tCons tb tNil))) σ H (.bl (ltD (rowD xs) (rowD ys))) := fun H1 e Q q =>
  ha H1 e _ fun p H2 _ e2 h2 => hb H2 (e.trans e2) _ fun p' H3 _ e3 h3 => ⟨p, p', xs, ys, rfl, sq_of (e3 _ _ h2), sq_of h3, r1, r2, fun H' e' => q H' ((e2.trans e3).trans e')⟩
theorem ec_flag {c d : Bool} (ha : Ev ta σ H (.bl c)) (hb : Ev tb σ H (.bl d)) (e : c = d) : Ev (tCall (sp__law_flag K) [] E (tCons ta (tCons tb tNil))) σ H (.bl true) := by
  subst e
  exact ev_call (ea_cons ha (ea_cons hb ea_nil)) fun H1 e Q q E => ⟨c, rfl, q⟩
theorem ec_pair {x y : V} (ha : Ev ta σ H x) (hb : Ev tb σ H y) (h1 : Ok x) (h2 : Ok y) : Ev (tCall (sp__law_pair_right K) [] E (tCons ta (tCons tb tNil))) σ H (.bl true) := ev_call (ea_cons ha (ea_cons hb ea_nil)) fun H1 e Q q E => ⟨x, y, rfl, h1, h2, q⟩
theorem ec_one {x : V} (ha : Ev ta σ H x) (h1 : Ok x) : Ev (tCall (sp__law_one_right K) [] E (tCons ta tNil)) σ H (.bl true) := ev_call (ea_cons ha ea_nil) fun H1 e Q q E => ⟨x, rfl, h1, q⟩
end
theorem ok_row_rank (D : Dn K mg "row_rank" s_row_rank ["row"]) (c_rank : C8.Cal P w K mg base 2 "rank" (sp_rank K) []) (z_tuple : mg "tuple" = none) :
    C8.Cal P w K mg base 3 "row_rank" (sp_row_rank K) [] := by
  refine cal_of D sc_row_rank (fun vs H Q E h => ?_) (fun f cdv A outer s H vs Q E hr h => ?_)
  · obtain ⟨_, _, rfl, _⟩ := h
    rfl
  refine ⟨_, (pss_one (ps_ret (pe_callTy call_tuple_of (by rfl) z_tuple (by decide +kernel) (pa_cons (pe_lc (own := [("value", 1)]) (g := gName 1) (tt := tYes) rfl sc_row_rank.nd (pi_list (pv 0)) (blkOk_by (N := n_row_rank) (sc := C8.fnScope s_row_rank) (by decide +kernel)) (fun _ _ _ _ _ => pg_name (i := 1) sc_row_rank.nd rfl (Or.inl rfl)) (fun _ _ _ _ _ => pts_nil) (fun _ _ _ _ _ => (C8.pe_c c_rank hr (by decide) (by rfl) (pa_cons (pv 1) pa_nil)))) pa_nil)))), ?_⟩
  obtain ⟨a, xs, rfl, hS, hR, q⟩ := h
  refine s_retUD (ds := xs.map rkD) ?_ fun p H1 ys hp e1 h1 hd => q p H1 ys hp e1 h1 hd
  rw [← map_get (f := rkD) xs]
  refine ud_tuple (ld_lcL (fun i => rkD (xs.getD i .non)) (ev_var rfl) hS (by have := hR.2; omega) (fun i => noL_rk (hR.getD i)) (fun x => rfl) fun i x H1 e1 hi => ?_)
  have ex : xs.getD i .non = x := by rw [List.getD_eq_getElem?_getD, hi] <;> rfl
  have hx : Ok x := ex ▸ hR.getD i
  show EvD K _ _ H1 (rkD (xs.getD i .non))
  rw [ex]
  exact ed_rk (ec_rank (ev_var rfl) hx) hx
theorem ok_same_rows (D : Dn K mg "same_rows" s_same_rows ["first", "second"]) (c_row_rank : C8.Cal P w K mg base 3 "row_rank" (sp_row_rank K) []) :
    C8.Cal P w K mg base 4 "same_rows" (sp_same_rows K) [] := by
  refine cal_of D sc_same_rows (fun vs H Q E h => ?_) (fun f cdv A outer s H vs Q E hr h => ?_)
  · obtain ⟨_, _, _, _, rfl, _⟩ := h
    rfl
  refine ⟨_, (pss_one (ps_ret (pe_cmpR (op_eqD (hu64 hr)) (C8.pe_c c_row_rank hr (by decide) (by rfl) (pa_cons (pv 0) pa_nil)) (C8.pe_c c_row_rank hr (by decide) (by rfl) (pa_cons (pv 1) pa_nil)) (nomark _)))), ?_⟩
  obtain ⟨a, b, xs, ys, rfl, h1, h2, r1, r2, q⟩ := h
  exact s_ret (ev_eqD (ed_tupU (ec_rr (ev_var rfl) h1 r1)) (ed_tupU (ec_rr (ev_var rfl) h2 r2)) (shaped_row r1.1) (shaped_row r2.1)) fun H2 e2 => q _ e2
theorem ok_row_before (D : Dn K mg "row_before" s_row_before ["first", "second"]) (c_row_rank : C8.Cal P w K mg base 3 "row_rank" (sp_row_rank K) []) :
    C8.Cal P w K mg base 4 "row_before" (sp_row_before K) [] := by
  refine cal_of D sc_row_before (fun vs H Q E h => ?_) (fun f cdv A outer s H vs Q E hr h => ?_)
  · obtain ⟨_, _, _, _, rfl, _⟩ := h
    rfl
  refine ⟨_, (pss_one (ps_ret (pe_cmpR (op_ltD (hu64 hr)) (C8.pe_c c_row_rank hr (by decide) (by rfl) (pa_cons (pv 0) pa_nil)) (C8.pe_c c_row_rank hr (by decide) (by rfl) (pa_cons (pv 1) pa_nil)) (nomark _)))), ?_⟩
  obtain ⟨a, b, xs, ys, rfl, h1, h2, r1, r2, q⟩ := h
  refine s_ret (ev_ltD (ed_tupU (ec_rr (ev_var rfl) h1 r1)) (ed_tupU (ec_rr (ev_var rfl) h2 r2)) (shaped_row r1.1) (shaped_row r2.1) ?_ ?_) fun H2 e2 => q _ e2
  · rw [ordD]
    exact ords_rk r1.1 r2.1
  · have := deps_rk r1.1
    show PyData.depthAll (xs.map rkD) + 1 ≤ 60
    omega
theorem ok__law_flag (D : Dn K mg "_law_flag" s__law_flag ["told", "due"]) :
    C8.Cal P w K mg base 1 "_law_flag" (sp__law_flag K) [] := by
  refine cal_of D sc__law_flag (fun vs H Q E h => ?_) (fun f cdv A outer s H vs Q E hr h => ?_)
  · obtain ⟨_, rfl, _⟩ := h
    rfl
  refine ⟨_, (pss_cons (ps_if (pt_val (pv 1))
      (pss_one (ps_ret (pe_cmpR op_isTF (pv 0) pe_bl (nomark _))))
      pss_nil)
    (pss_one (ps_ret (pe_cmpR op_isTF (pv 0) pe_bl (nomark _))))), ?_⟩
  obtain ⟨c, rfl, q⟩ := h
  refine q_when (b := c) (et_B (ev_var rfl)) (fun hb H1 e1 => s_ret (v := .bl true) ?_ fun H2 e2 => q _ (e1.trans e2)) fun hb H1 e1 => s_ret (v := .bl true) ?_ fun H2 e2 => q _ (e1.trans e2)
  · subst hb
    exact ev_is (ev_op (ev_var rfl) ev_c rv_isT) rfl
  · subst hb
    exact ev_is (ev_op (ev_var rfl) ev_c rv_isT) rfl
theorem ok__law_less (D : Dn K mg "_law_less" s__law_less ["first", "second"]) (c__law_rank : C8.Cal P w K mg base 1 "_law_rank" (sp__law_rank K) []) (z_len : mg "len" = none) (z_min : mg "min" = none) (z_range : mg "range" = none) :
    C8.Cal P w K mg base 2 "_law_less" (sp__law_less K) [] := by
  refine cal_of D sc__law_less (fun vs H Q E h => ?_) (fun f cdv A outer s H vs Q E hr h => ?_)
  · obtain ⟨_, _, _, _, rfl, _⟩ := h
    rfl
  refine ⟨_, (pss_cons (ps_for PassesOwn.never rfl (pi_range1 rfl z_range (pa_cons (pe_callB (call_min2 rfl) (by rfl) z_min (by decide +kernel) (pa_cons (pe_callB call_len_seq (by rfl) z_len PySem.boot_len (pa_cons (pv 0) pa_nil)) (pa_cons (pe_callB call_len_seq (by rfl) z_len PySem.boot_len (pa_cons (pv 1) pa_nil)) pa_nil))) pa_nil)) (pg_name (i := 2) sc__law_less.nd rfl (.inl rfl))
      (pss_cons (ps_set (i := 3) sc__law_less.nd rfl (.inl rfl) (C8.pe_c c__law_rank hr (by decide) (by rfl) (pa_cons (pe_ix ix_list (pv 0) (pv 2) (fun _ _ => rfl)) pa_nil)))
    (pss_cons (ps_set (i := 4) sc__law_less.nd rfl (.inl rfl) (C8.pe_c c__law_rank hr (by decide) (by rfl) (pa_cons (pe_ix ix_list (pv 1) (pv 2) (fun _ _ => rfl)) pa_nil)))
    (pss_cons (ps_if (pt_cmpR op_ne (pe_ix ix_tup (pv 3) pe_int (fun _ _ => rfl)) (pe_ix ix_tup (pv 4) pe_int (fun _ _ => rfl)) (nomark _))
      (pss_one (ps_ret (pe_cmpR op_lt (pe_ix ix_tup (pv 3) pe_int (fun _ _ => rfl)) (pe_ix ix_tup (pv 4) pe_int (fun _ _ => rfl)) (nomark _))))
      pss_nil)
    (pss_one (ps_if (pt_cmpR op_ne (pe_ix ix_tup (pv 3) pe_int (fun _ _ => rfl)) (pe_ix ix_tup (pv 4) pe_int (fun _ _ => rfl)) (nomark _))
      (pss_one (ps_ret (pe_cmpR (op_lt.or op_lt_str) (pe_ix ix_tup (pv 3) pe_int (fun _ _ => rfl)) (pe_ix ix_tup (pv 4) pe_int (fun _ _ => rfl)) (nomark _))))
      pss_nil))))))
    (pss_one (ps_ret (pe_cmpR op_lt (pe_callB call_len_seq (by rfl) z_len PySem.boot_len (pa_cons (pv 0) pa_nil)) (pe_callB call_len_seq (by rfl) z_len PySem.boot_len (pa_cons (pv 1) pa_nil)) (nomark _))))), ?_⟩
  obtain ⟨a, b, xs, ys, rfl, h1, h2, r1, r2, q⟩ := h
  have r1' := r1.2
  have r2' := r2.2
  refine q_forR1 (n := if (ys.length : Int) < (xs.length : Int) then (ys.length : Int) else (xs.length : Int)) (ea_cons (ev_min2 (ev_len (ev_var rfl) h1) (ev_len (ev_var rfl) h2)) ea_nil) (by split <;> omega)
    (fun i σ H' => ∃ y2 y3 y4, σ = [some (.ref a), some (.ref b), y2, y3, y4] ∧ Ex H H' ∧ ltDs (xs.map rkD) (ys.map rkD) = ltDs ((xs.drop i).map rkD) ((ys.drop i).map rkD))
    (fun H2 e2 => ⟨none, none, none, rfl, e2, rfl⟩) (fun i σ H2 hi hw => ?_) (fun σ H2 hw => ?_)
  · obtain ⟨y2, y3, y4, rfl, e2, hd⟩ := hw
    have hi' : i < xs.length ∧ i < ys.length := by split at hi <;> omega
    have gx : xs[i]? = some xs[i] := List.getElem?_eq_getElem hi'.1
    have gy : ys[i]? = some ys[i] := List.getElem?_eq_getElem hi'.2
    have ox : Ok xs[i] := r1.1 _ (List.getElem_mem _)
    have oy : Ok ys[i] := r2.1 _ (List.getElem_mem _)
    rw [List.drop_eq_getElem_cons hi'.1, List.drop_eq_getElem_cons hi'.2, List.map_cons, List.map_cons, lt_cons] at hd
    generalize xs[i] = x at *
    generalize ys[i] = y at *
    refine q_asgU (ec_lrank (ev_op (ev_var rfl) (ev_var rfl) (rv_ixL (ex_l e2 h1) (atI_nat gx))) ox) fun p3 H3 hp3 e3 h3 => ?_
    refine q_asgU (ec_lrank (ev_op (ev_var rfl) (ev_var rfl) (rv_ixL (ex_l (e2.trans e3) h2) (atI_nat gy))) oy) fun p4 H4 hp4 e4 h4 => ?_
    have h3' := e4 _ _ h3
    have ax0 : atI (rkL x) 0 = some (.int (kr x)) := atI_nat (j := 0) rfl
    have ay0 : atI (rkL y) 0 = some (.int (kr y)) := atI_nat (j := 0) rfl
    have ax1 : atI (rkL x) 1 = some (payV x) := atI_nat (j := 1) rfl
    have ay1 : atI (rkL y) 1 = some (payV y) := atI_nat (j := 1) rfl
    refine q_when (b := !decide (V.int (kr x) = V.int (kr y))) (et_test (ev_op (ev_op (ev_var rfl) ev_c (rv_ixT (st_of h3') ax0)) (ev_op (ev_var rfl) ev_c (rv_ixT (st_of h4) ay0)) (rv_ne rfl))) (fun hb H5 e5 => s_ret (v := .bl (ltD (rowD xs) (rowD ys))) ?_ fun H6 e6 => q _ ((((e2.trans e3).trans e4).trans e5).trans e6)) fun hb H5 e5 => ?_
    · have ne : ¬ kr x = kr y := fun z => by rw [z, decide_eq_true rfl] at hb; cases hb
      refine ev_is (ev_op (ev_op (ev_var rfl) ev_c (rv_ixT (st_of (e5 _ _ h3')) ax0)) (ev_op (ev_var rfl) ev_c (rv_ixT (st_of (e5 _ _ h4)) ay0)) rv_I0) ?_
      show V.bl (decide (kr x < kr y)) = V.bl (ltDs (xs.map rkD) (ys.map rkD))
      rw [hd, if_neg ne]
    have ek : kr x = kr y := by
      rw [Bool.not_eq_false', decide_eq_true_eq] at hb
      exact V.int.inj hb
    rw [if_pos ek, eqv_pay ox oy ek] at hd
    have h5 := e5 _ _ h3'
    have h6 := e5 _ _ h4
    refine s_when (b := !decide (payV x = payV y)) (et_test (ev_op (ev_op (ev_var rfl) ev_c (rv_ixT (st_of h5) ax1)) (ev_op (ev_var rfl) ev_c (rv_ixT (st_of h6) ay1)) (rv_ne (scal_pay ox oy ek)))) (fun hb H6 e6 => s_ret (v := .bl (ltD (rowD xs) (rowD ys))) ?_ fun H7 e7 => q _ (((((e2.trans e3).trans e4).trans e5).trans e6).trans e7)) fun hb H6 e6 => ?_
    · rw [Bool.not_eq_true'] at hb
      refine ev_is (ev_op (ev_op (ev_var rfl) ev_c (rv_ixT (st_of (e6 _ _ h5)) ax1)) (ev_op (ev_var rfl) ev_c (rv_ixT (st_of (e6 _ _ h6)) ay1)) (rv_ltP ox oy ek)) ?_
      show V.bl (ltD (payD x) (payD y)) = V.bl (ltDs (xs.map rkD) (ys.map rkD))
      rw [hd, if_neg (by rw [hb]; decide)]
    · rw [Bool.not_eq_false'] at hb
      rw [if_pos hb] at hd
      exact ⟨_, _, _, rfl, (((e2.trans e3).trans e4).trans e5).trans e6, hd⟩
  · obtain ⟨y2, y3, y4, rfl, e2, hd⟩ := hw
    refine s_ret (v := .bl (ltD (rowD xs) (rowD ys))) ?_ fun H3 e3 => q _ (e2.trans e3)
    refine ev_is (ev_op (ev_len (ev_var rfl) (ex_l e2 h1)) (ev_len (ev_var rfl) (ex_l e2 h2)) rv_I0) ?_
    show V.bl (decide ((xs.length : Int) < (ys.length : Int))) = V.bl (ltDs (xs.map rkD) (ys.map rkD))
    rw [hd]
    refine congrArg V.bl ?_
    by_cases c : (ys.length : Int) < (xs.length : Int)
    · rw [if_pos c, show ((ys.length : Int)).toNat = ys.length from rfl, List.drop_length, decide_eq_false (by omega)]
      cases ex : xs.drop ys.length with
      | nil => rfl
      | cons z zs => rfl
    · rw [if_neg c, show ((xs.length : Int)).toNat = xs.length from rfl, List.drop_length]
      cases ey : ys.drop xs.length with
      | nil =>
        have := List.drop_eq_nil_iff.mp ey
        rw [decide_eq_false (by omega)]
        rfl
      | cons z zs =>
        have : xs.length < ys.length := by
          rcases Nat.lt_or_ge xs.length ys.length with l | g
          · exact l
          · rw [List.drop_eq_nil_of_le g] at ey; cases ey
        rw [decide_eq_true (by omega)]
        rfl
theorem ok__law_pair_right (D : Dn K mg "_law_pair_right" s__law_pair_right ["first", "second"]) (c__law_flag : C8.Cal P w K mg base 1 "_law_flag" (sp__law_flag K) []) (c__law_less : C8.Cal P w K mg base 2 "_law_less" (sp__law_less K) []) (c__law_rank : C8.Cal P w K mg base 1 "_law_rank" (sp__law_rank K) []) (c_before : C8.Cal P w K mg base 3 "before" (sp_before K) []) (c_same : C8.Cal P w K mg base 3 "same" (sp_same K) []) :
    C8.Cal P w K mg base 4 "_law_pair_right" (sp__law_pair_right K) [] := by
  refine cal_of D sc__law_pair_right (fun vs H Q E h => ?_) (fun f cdv A outer s H vs Q E hr h => ?_)
  · obtain ⟨_, _, rfl, _⟩ := h
    rfl
  refine ⟨_, (pss_cons (ps_set (i := 2) sc__law_pair_right.nd rfl (.inl rfl) (pe_cmpR (op_eqD (hu64 hr)) (C8.pe_c c__law_rank hr (by decide) (by rfl) (pa_cons (pv 0) pa_nil)) (C8.pe_c c__law_rank hr (by decide) (by rfl) (pa_cons (pv 1) pa_nil)) (nomark _)))
    (pss_cons (ps_if (pt_not (pt_val (C8.pe_c c__law_flag hr (by decide) (by rfl) (pa_cons (C8.pe_c c_same hr (by decide) (by rfl) (pa_cons (pv 0) (pa_cons (pv 1) pa_nil))) (pa_cons (pv 2) pa_nil)))))
      (pss_one (ps_ret pe_bl))
      pss_nil)
    (pss_one (ps_ret (C8.pe_c c__law_flag hr (by decide) (by rfl) (pa_cons (C8.pe_c c_before hr (by decide) (by rfl) (pa_cons (pv 0) (pa_cons (pv 1) pa_nil))) (pa_cons (C8.pe_c c__law_less hr (by decide) (by rfl) (pa_cons (pe_lst (pa_cons (pv 0) pa_nil)) (pa_cons (pe_lst (pa_cons (pv 1) pa_nil)) pa_nil))) pa_nil))))))), ?_⟩
  obtain ⟨x, y, rfl, hx, hy, q⟩ := h
  refine q_asg (ev_eqD (ed_rk (ec_lrank (ev_var rfl) hx) hx) (ed_rk (ec_lrank (ev_var rfl) hy) hy) (shaped_rk hx) (shaped_rk hy)) fun H1 e1 => ?_
  refine q_when (b := !true) (et_not (et_B (ec_flag (ec_same (ev_var rfl) (ev_var rfl) hx hy) (ev_var rfl) rfl))) (fun hb => nomatch hb) fun _ H2 e2 => ?_
  refine s_ret (ec_flag (ec_before (ev_var rfl) (ev_var rfl) hx hy) (ec_lessN (xs := [x]) (ys := [y]) (el_lst (ea_cons (ev_var rfl) ea_nil) (by show 1 ≤ 100000; decide)) (el_lst (ea_cons (ev_var rfl) ea_nil) (by show 1 ≤ 100000; decide)) ⟨fun z hz => by rw [List.mem_singleton.mp hz]; exact hx, by show 1 ≤ 1000; decide⟩ ⟨fun z hz => by rw [List.mem_singleton.mp hz]; exact hy, by show 1 ≤ 1000; decide⟩) (one_lt hx hy).symm) fun H3 e3 => q _ ((e1.trans e2).trans e3)
theorem ok__law_one_right (D : Dn K mg "_law_one_right" s__law_one_right ["value"]) (c__law_flag : C8.Cal P w K mg base 1 "_law_flag" (sp__law_flag K) []) (c__law_is_integer : C8.Cal P w K mg base 1 "_law_is_integer" (sp__law_is_integer K) []) (c__law_rank : C8.Cal P w K mg base 1 "_law_rank" (sp__law_rank K) []) (c_is_integer : C8.Cal P w K mg base 1 "is_integer" (sp_is_integer K) []) (c_kind_rank : C8.Cal P w K mg base 1 "kind_rank" (sp_kind_rank K) []) (c_rank : C8.Cal P w K mg base 2 "rank" (sp_rank K) []) (z_isinstance : mg "isinstance" = none) (z_tuple : mg "tuple" = none) :
    C8.Cal P w K mg base 3 "_law_one_right" (sp__law_one_right K) [] := by
  refine cal_of D sc__law_one_right (fun vs H Q E h => ?_) (fun f cdv A outer s H vs Q E hr h => ?_)
  · obtain ⟨_, rfl, _⟩ := h
    rfl
  refine ⟨_, (pss_cons (ps_set (i := 1) sc__law_one_right.nd rfl (.inl rfl) (C8.pe_c c__law_rank hr (by decide) (by rfl) (pa_cons (pv 0) pa_nil)))
    (pss_cons (ps_set (i := 2) sc__law_one_right.nd rfl (.inl rfl) (C8.pe_c c_rank hr (by decide) (by rfl) (pa_cons (pv 0) pa_nil)))
    (pss_cons (ps_if (PW.pt (pw_or (pt_not (pt_val (pe_callB call_isi (by rfl) z_isinstance (by decide +kernel) (pa_cons (pv 2) (pa_cons (pe_bltn (v := .ty "tuple") (u := .type "tuple") rfl z_tuple (by decide +kernel) rfl) pa_nil))))) (pw_or (pt_cmpR (op_neD (hu64 hr)) (pv 2) (pv 1) (nomark _)) (pw_or1 (pt_not (pt_val (C8.pe_c c__law_is_integer hr (by decide) (by rfl) (pa_cons (C8.pe_c c_kind_rank hr (by decide) (by rfl) (pa_cons (pv 0) pa_nil)) pa_nil))))))))
      (pss_one (ps_ret pe_bl))
      pss_nil)
    (pss_cons (ps_if (PW.pt (pw_and (pt_cmpR op_ne (pe_ix ix_tup (pv 1) pe_int (fun _ _ => rfl)) pe_int (nomark _)) (pw_and1 (pt_not (pt_val (C8.pe_c c__law_is_integer hr (by decide) (by rfl) (pa_cons (pe_ix ix_tup (pv 2) pe_int (fun _ _ => rfl)) pa_nil)))))))
      (pss_one (ps_ret pe_bl))
      pss_nil)
    (pss_one (ps_ret (pe_and (pe_cmpR op_eq (C8.pe_c c_kind_rank hr (by decide) (by rfl) (pa_cons (pv 0) pa_nil)) (pe_ix ix_tup (pv 1) pe_int (fun _ _ => rfl)) (nomark _)) (pe_one (C8.pe_c c__law_flag hr (by decide) (by rfl) (pa_cons (C8.pe_c c_is_integer hr (by decide) (by rfl) (pa_cons (pv 0) pa_nil)) (pa_cons (pe_cmpR op_eq (pe_ix ix_tup (pv 1) pe_int (fun _ _ => rfl)) pe_int (nomark _)) pa_nil))))))))))), ?_⟩
  obtain ⟨x, rfl, hx, q⟩ := h
  refine q_asgU (ec_lrank (ev_var rfl) hx) fun p1 H1 hp1 e1 h1 => ?_
  refine q_asgU (ec_rank (ev_var rfl) hx) fun p2 H2 hp2 e2 h2 => ?_
  have h1' := e2 _ _ h1
  have ax0 : atI (rkL x) 0 = some (.int (kr x)) := atI_nat (j := 0) rfl
  have ax1 : atI (rkL x) 1 = some (payV x) := atI_nat (j := 1) rfl
  have er : PyData.eqv (rkD x) (rkD x) = true := by
    rw [eqv_rk, beq_self_eq_true, eqv_pay hx hx rfl, decide_eq_true rfl]
    rfl
  refine q_when (b := (!true) || ((!PyData.eqv (rkD x) (rkD x)) || (!true))) ?_ (fun hb => ?_) fun _ H3 e3 => ?_
  · exact et_or (et_not (et_B (ev_isi' (T := "tuple") (ev_var rfl) (tx_tup h2) (by decide +kernel)))) fun _ => et_or (et_test (ev_neD (ed_val (ev_var rfl) (dp_rk hx h2)) (ed_val (ev_var rfl) (dp_rk hx h1')) (shaped_rk hx) (shaped_rk hx))) fun _ => et_not (et_B (ec_isint (ec_kr (ev_var rfl) hx) (.int _)))
  · rw [er] at hb
    exact absurd hb (by decide)
  have h13 := e3 _ _ h1'
  have h23 := e3 _ _ h2
  have plp : Pl (payV x) := by cases hx <;> constructor
  refine q_when (b := (!decide (V.int (kr x) = V.int 3)) && (!isInt (payV x))) ?_ (fun hb => ?_) fun _ H4 e4 => ?_
  · exact et_and (et_test (ev_op (ev_op (ev_var rfl) ev_c (rv_ixT (st_of h13) ax0)) ev_c (rv_ne rfl))) fun _ => et_not (et_B (ec_isint (ev_op (ev_var rfl) ev_c (rv_ixT (st_of h23) ax1)) plp))
  · exfalso
    cases hx <;> simp [kr, payV, isInt] at hb
  refine s_ret (v := .bl true) ?_ fun H5 e5 => q _ ((((e1.trans e2).trans e3).trans e4).trans e5)
  have h14 := e4 _ _ h13
  refine ev_is (ev_andV (ev_op (ec_kr (ev_var rfl) hx) (ev_op (ev_var rfl) ev_c (rv_ixT (st_of h14) ax0)) (rv_eq rfl)) fun _ => ec_flag (ec_isint0 (ev_var rfl) hx.pl) (ev_op (ev_op (ev_var rfl) ev_c (rv_ixT (st_of h14) ax0)) ev_c (rv_eq rfl)) ?_) ?_
  · cases hx <;> rfl
  · rw [decide_eq_true rfl]
    rfl
variable {f : Addr}
def datV : V → PyData
  | .bl b => .bool b
  | .int i => .int i
  | .str s => .str s
  | _ => .none
theorem dp_val {K : PySem.W.Frag} {H : Hp} {x : V} (h : VOk x) : Dp K H x (datV x) := by
  cases h with
  | non => exact .non
  | bl b => exact .bl b
  | int i _ => exact .int i
  | str l _ _ => exact .str _
theorem dp_vals {K : PySem.W.Frag} {H : Hp} : ∀ {xs : List V}, (∀ x ∈ xs, VOk x) → DpAll K H xs (xs.map datV)
  | [], _ => .nil
  | x :: xs, h => .cons (dp_val (h x (List.mem_cons_self ..))) (dp_vals fun y hy => h y (List.mem_cons_of_mem _ hy))
theorem VOk.ok {x : V} (h : VOk x) : Ok x := by
  cases h with
  | non => exact .non
  | bl b => exact .bl b
  | int i _ => exact .int i
  | str l _ hc => exact .str _ (strOk_S hc)
theorem sh_val {x : V} (h : VOk x) : shOk (datV x) = true ∧ shB (datV x) ≤ 2000 ∧ (datV x).depth = 0 := by
  cases h with
  | non => exact ⟨rfl, by decide, rfl⟩
  | bl b => exact ⟨rfl, by show 2000 ≤ 2000; decide, rfl⟩
  | int i hi =>
    refine ⟨decide_eq_true ?_, by show 2000 ≤ 2000; decide, rfl⟩
    have h2 : i.natAbs < 2 ^ 60 := by omega
    have := PySem.Flt.log2_lt_of (by decide) h2
    omega
  | str l hl hc => exact ⟨strOk_S hc, by show 10 * (SX.S l).length + 2 ≤ 2000; rw [SX.S_len]; omega, rfl⟩
theorem sh_vals : ∀ {xs : List V}, (∀ x ∈ xs, VOk x) → shOks (xs.map datV) = true ∧ shBs (xs.map datV) ≤ 2002 * xs.length ∧ PyData.depthAll (xs.map datV) = 0
  | [], _ => ⟨rfl, Nat.le_refl _, rfl⟩
  | x :: xs, h => by
    obtain ⟨a1, a2, a3⟩ := sh_val (h x (List.mem_cons_self ..))
    obtain ⟨b1, b2, b3⟩ := sh_vals fun y hy => h y (List.mem_cons_of_mem _ hy)
    refine ⟨?_, ?_, ?_⟩
    · show (shOk (datV x) && shOks (xs.map datV)) = true
      rw [a1, b1]
      rfl
    · show shB (datV x) + 2 + shBs (xs.map datV) ≤ _
      rw [List.length_cons]
      omega
    · show max (datV x).depth (PyData.depthAll (xs.map datV)) = 0
      rw [a3, b3]
      rfl
/-- the values that the law draws -/
def drawn (ns : List Int) (lo n : Nat) : List V := (List.range n).map fun i => lawV (cellN ns (lo + i))
theorem drawn_ok (ns : List Int) (lo n : Nat) : ∀ x ∈ drawn ns lo n, VOk x := by
  intro x hx
  obtain ⟨i, _, rfl⟩ := List.mem_map.mp hx
  exact lawV_ok _
theorem drawn_len (ns : List Int) (lo n : Nat) : (drawn ns lo n).length = n := by
  unfold drawn
  rw [List.length_map, List.length_range]
theorem set_ok {xs : List V} {i : Nat} {v : V} (h : ∀ x ∈ xs, VOk x) (hv : VOk v) : ∀ x ∈ xs.set i v, VOk x := by
  intro x hx
  rcases List.mem_or_eq_of_mem_set hx with h' | rfl
  · exact h x h'
  · exact hv
theorem ok_law {fa : Addr} {s : Shared} {H : Hp} {a : Addr} {ns : List Int} {cdv : Value} (c__law_flag : C8.Cal P w K mg base 1 "_law_flag" (sp__law_flag K) []) (c__law_less : C8.Cal P w K mg base 2 "_law_less" (sp__law_less K) []) (c__law_numbers : C8.Cal P w K mg base 1 "_law_numbers" (sp__law_numbers K) []) (c__law_one_right : C8.Cal P w K mg base 3 "_law_one_right" (sp__law_one_right K) []) (c__law_pair_right : C8.Cal P w K mg base 4 "_law_pair_right" (sp__law_pair_right K) []) (c__law_rank : C8.Cal P w K mg base 1 "_law_rank" (sp__law_rank K) []) (c__law_value : C8.Cal P w K mg base 2 "_law_value" (sp__law_value K) []) (c_row_before : C8.Cal P w K mg base 4 "row_before" (sp_row_before K) []) (c_row_rank : C8.Cal P w K mg base 3 "row_rank" (sp_row_rank K) []) (c_same_rows : C8.Cal P w K mg base 4 "same_rows" (sp_same_rows K) []) (z_int : mg "int" = none) (z_len : mg "len" = none) (z_list : mg "list" = none) (z_range : mg "range" = none) (z_repr : mg "repr" = none) (z_tuple : mg "tuple" = none) (h63 : ns.length ≤ 63) (hS : SqL K H a (ns.map V.int))
    (hr : Room 4 (callerA.deeper (envOfC "law" (C8.fnScope s_law) s.heap.objs.size fa cdv))) :
    ∃ t, PSs (cxOf C8.CX0 P w K mg base n_law "law" (C8.fnScope s_law) fa cdv callerA [] s H C8.E0).nox (C8.fnBody s_law) t ∧ t { nx := fun _ _ => V.non = .bl true, rt := fun v _ => v = .bl true } (start n_law [.ref a]) H := by
  refine ⟨_, (pss_cons (ps_set (i := 1) sc_law.nd rfl (.inr rfl) (C8.pe_c c__law_numbers hr (by decide) (by rfl) (pa_cons (pv 0) (pa_cons pe_int pa_nil))))
    (pss_cons (ps_setLc (i := 2) (own := [("k", 8)]) (g := gName 8) (tt := tYes) rfl sc_law.nd rfl rfl (sw_true rfl rfl rfl (by decide +kernel)) (pi_range2 rfl z_range (pa_cons pe_int (pa_cons (pe_op op_add pe_int (pe_op op_mod (pe_callTy call_int1 (by rfl) z_int (by decide +kernel) (pa_cons (pe_ix ix_list (pv 1) pe_int (fun _ _ => rfl)) pa_nil)) pe_int)) pa_nil))) (blkOk_by (N := n_law) (sc := C8.fnScope s_law) (by decide +kernel)) (fun _ _ _ _ _ => pg_name (i := 8) sc_law.nd rfl (Or.inl rfl)) (fun _ _ _ _ _ => pts_nil) (fun _ _ _ _ _ => (C8.pe_c c__law_value hr (by decide) (by rfl) (pa_cons (pe_ix (ix_listK (K := K) rfl) (pv 1) (pv 8) (fun _ _ => rfl)) pa_nil))))
    (pss_cons (ps_setLc (i := 3) (own := [("k", 8)]) (g := gName 8) (tt := tYes) rfl sc_law.nd rfl rfl (sw_true rfl rfl rfl (by decide +kernel)) (pi_range2 rfl z_range (pa_cons pe_int (pa_cons (pe_op op_add pe_int (pe_op op_mod (pe_callTy call_int1 (by rfl) z_int (by decide +kernel) (pa_cons (pe_ix ix_list (pv 1) pe_int (fun _ _ => rfl)) pa_nil)) pe_int)) pa_nil))) (blkOk_by (N := n_law) (sc := C8.fnScope s_law) (by decide +kernel)) (fun _ _ _ _ _ => pg_name (i := 8) sc_law.nd rfl (Or.inl rfl)) (fun _ _ _ _ _ => pts_nil) (fun _ _ _ _ _ => (C8.pe_c c__law_value hr (by decide) (by rfl) (pa_cons (pe_ix (ix_listK (K := K) rfl) (pv 1) (pv 8) (fun _ _ => rfl)) pa_nil))))
    (Evl.pss_cut (ps_if (pt_cmpR op_eq (pe_op op_mod (pe_op op_fdiv (pe_callTy call_int1 (by rfl) z_int (by decide +kernel) (pa_cons (pe_ix ix_list (pv 1) pe_int (fun _ _ => rfl)) pa_nil)) pe_int) pe_int) pe_int (nomark _))
      (pss_cons (ps_set (i := 3) sc_law.nd rfl (.inl rfl) (pe_callTy call_list_of (by rfl) z_list (by decide +kernel) (pa_cons (pv 2) pa_nil)))
    (pss_one (ps_if (PW.pt (pw_and (pt_cmpR op_gt (pe_callB call_len_seq (by rfl) z_len PySem.boot_len (pa_cons (pv 2) pa_nil)) pe_int (nomark _)) (pw_and1 (pt_cmpR op_eq (pe_op op_mod (pe_op op_fdiv (pe_callTy call_int1 (by rfl) z_int (by decide +kernel) (pa_cons (pe_ix ix_list (pv 1) pe_int (fun _ _ => rfl)) pa_nil)) pe_int) pe_int) pe_int (nomark _)))))
      (pss_one (ps_asg (C8.pe_c c__law_value hr (by decide) (by rfl) (pa_cons (pe_ix ix_list (pv 1) pe_int (fun _ _ => rfl)) pa_nil)) (pg_sub (pv 3) (pe_op op_mod (pe_op op_fdiv (pe_callTy call_int1 (by rfl) z_int (by decide +kernel) (pa_cons (pe_ix ix_list (pv 1) pe_int (fun _ _ => rfl)) pa_nil)) pe_int) (pe_callB call_len_seq (by rfl) z_len PySem.boot_len (pa_cons (pv 2) pa_nil))) set_list)))
      pss_nil)))
      pss_nil)
    (pss_cons (ps_set (i := 4) sc_law.nd rfl (.inl rfl) (pe_tup (pa_cons (pe_callTy call_list_of (by rfl) z_list (by decide +kernel) (pa_cons (pv 2) pa_nil)) (pa_cons (pe_callTy call_list_of (by rfl) z_list (by decide +kernel) (pa_cons (pv 3) pa_nil)) pa_nil))))
    (pss_cons (ps_for PassesOwn.never rfl (pi_list (pe_op op_cat (pv 2) (pv 3))) (pg_name (i := 5) sc_law.nd rfl (.inl rfl))
      (pss_cons (ps_if (pt_not (pt_val (C8.pe_c c__law_one_right hr (by decide) (by rfl) (pa_cons (pv 5) pa_nil))))
      (pss_one (ps_ret pe_bl))
      pss_nil)
    (pss_one (ps_for PassesOwn.never rfl (pi_list (pe_op op_cat (pv 3) (pv 2))) (pg_name (i := 6) sc_law.nd rfl (.inl rfl))
      (pss_one (ps_if (pt_not (pt_val (C8.pe_c c__law_pair_right hr (by decide) (by rfl) (pa_cons (pv 5) (pa_cons (pv 6) pa_nil)))))
      (pss_one (ps_ret pe_bl))
      pss_nil))))))
    (pss_cons (ps_if (pt_cmpR (op_neD (hu64 hr)) (C8.pe_c c_row_rank hr (by decide) (by rfl) (pa_cons (pv 2) pa_nil)) (pe_callTy call_tuple_of (by rfl) z_tuple (by decide +kernel) (pa_cons (pe_lc (own := [("one", 5)]) (g := gName 5) (tt := tYes) rfl sc_law.nd (pi_list (pe_ix ix_tup (pv 4) pe_int (fun _ _ => rfl))) (blkOk_by (N := n_law) (sc := C8.fnScope s_law) (by decide +kernel)) (fun _ _ _ _ _ => pg_name (i := 5) sc_law.nd rfl (Or.inl rfl)) (fun _ _ _ _ _ => pts_nil) (fun _ _ _ _ _ => (C8.pe_c c__law_rank hr (by decide) (by rfl) (pa_cons (pv 5) pa_nil)))) pa_nil)) (nomark _))
      (pss_one (ps_ret pe_bl))
      pss_nil)
    (pss_cons (ps_set (i := 7) sc_law.nd rfl (.inl rfl) (pe_and (pe_not (C8.pe_c c__law_less hr (by decide) (by rfl) (pa_cons (pv 2) (pa_cons (pv 3) pa_nil)))) (pe_one (pe_not (C8.pe_c c__law_less hr (by decide) (by rfl) (pa_cons (pv 3) (pa_cons (pv 2) pa_nil)))))))
    (pss_cons (ps_if (pt_not (pt_val (C8.pe_c c__law_flag hr (by decide) (by rfl) (pa_cons (C8.pe_c c_same_rows hr (by decide) (by rfl) (pa_cons (pv 2) (pa_cons (pv 3) pa_nil))) (pa_cons (pv 7) pa_nil)))))
      (pss_one (ps_ret pe_bl))
      pss_nil)
    (pss_cons (ps_if (pt_not (pt_val (C8.pe_c c__law_flag hr (by decide) (by rfl) (pa_cons (C8.pe_c c_row_before hr (by decide) (by rfl) (pa_cons (pv 2) (pa_cons (pv 3) pa_nil))) (pa_cons (C8.pe_c c__law_less hr (by decide) (by rfl) (pa_cons (pe_ix ix_tup (pv 4) pe_int (fun _ _ => rfl)) (pa_cons (pe_ix ix_tup (pv 4) pe_int (fun _ _ => rfl)) pa_nil))) pa_nil)))))
      (pss_one (ps_ret pe_bl))
      pss_nil)
    (pss_one (ps_ret (pe_cmpR op_eq (pe_callB (call_repr rfl (hu64 hr)) (by rfl) z_repr (by decide +kernel) (pa_cons (pe_tup (pa_cons (pv 2) (pa_cons (pv 3) pa_nil))) pa_nil)) (pe_callB (call_repr rfl (hu64 hr)) (by rfl) z_repr (by decide +kernel) (pa_cons (pv 4) pa_nil)) (nomark _)))))))))))))), ?_⟩
  have row : ∀ {xs : List V}, (∀ x ∈ xs, VOk x) → xs.length ≤ 100 → Row xs := fun h hl => ⟨fun x hx => (h x hx).ok, by omega⟩
  refine q_asgL (xs := (lawN ns 16).map V.int) (el_call (ea_cons (ev_var rfl) (ea_cons ev_c ea_nil)) fun H1 e Q q E => ⟨a, ns, 16, rfl, ex_l e hS, h63, by decide, q⟩) fun p1 H1 hp1 e1 h1 => ?_
  have idx : ∀ {σ : L2.St} {H' : Hp} {ta : TE} {i : Nat}, σ[1]? = some (some (V.ref p1)) → Ex H1 H' → Ev ta σ H' (.int (i : Int)) → i < 16 → Ev (tOp (rIxL K) (tVar 1) ta) σ H' (.int (cellN ns i)) := fun hσ e ha hi => ev_op (ev_var hσ) ha (rv_ixL (sq_of (e _ _ h1)) (lawN_at hi))
  have n0 := cellN_nn ns 0
  have n1 := cellN_nn ns 1
  refine q_asgL (xs := drawn ns 2 (cellN ns 0 % 7).toNat) ?_ fun pf H2 hpf e2 h2 => ?_
  · have e : (cellN ns 0 % 7).toNat = (2 + cellN ns 0 % 7 - 2).toNat := by omega
    unfold drawn
    rw [e]
    refine el_lcR2 (lo := 2) (n := 2 + cellN ns 0 % 7) (fun i => lawV (cellN ns (2 + i))) (ea_cons ev_c (ea_cons (ev_op ev_c (ev_op (ev_int (idx (i := 0) rfl (Ex.refl _) ev_c (by decide))) ev_c (rv_I (by decide))) rv_I0) ea_nil)) (by omega) (fun x => rfl) fun i H3 e3 hi => ?_
    refine ec_value (idx (i := 2 + i) rfl e3 (ev_is (ev_var rfl) ?_) (by omega))
    rw [Int.natCast_add]
    rfl
  refine q_asgL (xs := drawn ns 9 (cellN ns 1 % 7).toNat) ?_ fun ps H3 hps e3 h3 => ?_
  · have e : (cellN ns 1 % 7).toNat = (9 + cellN ns 1 % 7 - 9).toNat := by omega
    unfold drawn
    rw [e]
    refine el_lcR2 (lo := 9) (n := 9 + cellN ns 1 % 7) (fun i => lawV (cellN ns (9 + i))) (ea_cons ev_c (ea_cons (ev_op ev_c (ev_op (ev_int (idx (i := 1) rfl e2 ev_c (by decide))) ev_c (rv_I (by decide))) rv_I0) ea_nil)) (by omega) (fun x => rfl) fun i H4 e4 hi => ?_
    refine ec_value (idx (i := 9 + i) rfl (e2.trans e4) (ev_is (ev_var rfl) ?_) (by omega))
    rw [Int.natCast_add]
    rfl
  have f3 := e3 _ _ h2
  have okF := drawn_ok ns 2 (cellN ns 0 % 7).toNat
  have okS := drawn_ok ns 9 (cellN ns 1 % 7).toNat
  have lF : (drawn ns 2 (cellN ns 0 % 7).toNat).length ≤ 7 := by rw [drawn_len]; omega
  have lS : (drawn ns 9 (cellN ns 1 % 7).toNat).length ≤ 7 := by rw [drawn_len]; omega
  generalize drawn ns 2 (cellN ns 0 % 7).toNat = xs at *
  generalize drawn ns 9 (cellN ns 1 % 7).toNat = zs at *
  refine q_cut (M := fun σ H' => ∃ (b : Addr) (ys : List V), σ = [some (.ref a), some (.ref p1), some (.ref pf), some (.ref b), none, none, none, none, none] ∧ H' pf = some (.lst xs) ∧ H' b = some (.lst ys) ∧ (∀ y ∈ ys, VOk y) ∧ ys.length ≤ 7) ?_ ?_
  · have x3 := e2.trans e3
    refine s_when (b := decide (V.int (cellN ns 0 / 7 % 3) = V.int 0)) (et_test (ev_op (ev_op (ev_op (ev_int (idx (i := 0) rfl x3 ev_c (by decide))) ev_c (rv_I ⟨by decide, by decide⟩)) ev_c (rv_I (by decide))) ev_c (rv_eq rfl))) (fun _ H4 e4 => ?_) fun _ H4 e4 => ⟨ps, zs, rfl, e4 _ _ f3, e4 _ _ h3, okS, lS⟩
    refine q_asgL (xs := xs) (el_list (ev_var rfl) (sq_of (e4 _ _ f3))) fun pb H5 hpb e5 h5 => ?_
    have x5 := (x3.trans e4).trans e5
    have f5 := e5 _ _ (e4 _ _ f3)
    refine s_when (b := decide (0 < (xs.length : Int)) && decide (V.int (cellN ns 1 / 7 % 2) = V.int 0)) (et_and (et_test (ev_op (ev_len (ev_var rfl) (sq_of f5)) ev_c rv_I0)) fun _ => et_test (ev_op (ev_op (ev_op (ev_int (idx (i := 1) rfl x5 ev_c (by decide))) ev_c (rv_I ⟨by decide, by decide⟩)) ev_c (rv_I (by decide))) ev_c (rv_eq rfl))) (fun hb H6 e6 => ?_) fun _ H6 e6 => ⟨pb, xs, rfl, e6 _ _ f5, e6 _ _ h5, okF, lF⟩
    rw [Bool.and_eq_true, decide_eq_true_eq] at hb
    have x6 := x5.trans e6
    have f6 := e6 _ _ f5
    have nn : 0 ≤ cellN ns 1 / 14 % (xs.length : Int) ∧ cellN ns 1 / 14 % (xs.length : Int) < (xs.length : Int) := ⟨Int.emod_nonneg _ (by omega), Int.emod_lt_of_pos _ hb.1⟩
    refine s_setL (xs := xs) (v := lawV (cellN ns 15)) (j := (cellN ns 1 / 14 % (xs.length : Int)).toNat) (e6 _ _ h5) (ec_value (idx (i := 15) rfl x6 ev_c (by decide))) (ev_var rfl) (ev_is (ev_op (ev_op (ev_int (idx (i := 1) rfl x6 ev_c (by decide))) ev_c (rv_I ⟨by decide, by decide⟩)) (ev_len (ev_var rfl) (sq_of f6)) (rv_I hb.1)) (by rw [Int.toNat_of_nonneg nn.1])) (by omega) fun H7 e7 => ?_
    refine ⟨pb, xs.set (cellN ns 1 / 14 % (xs.length : Int)).toNat (lawV (cellN ns 15)), rfl, ?_, upd_same, set_ok okF (lawV_ok _), by rw [List.length_set]; exact lF⟩
    have ne : pf ≠ pb := fun z => by
      rw [← z] at hpb
      rw [e4 _ _ f3] at hpb
      cases hpb
    rw [upd_ne ne]
    exact e7 _ _ f6
  · rintro σ' H4 ⟨b, ys, rfl, f4, s4, okY, lY⟩
    have rX : Row xs := row okF (by omega)
    have rY : Row ys := row okY (by omega)
    refine q_two (xs := xs) (ys := ys) (el_list (ev_var rfl) (sq_of f4)) (el_list (ev_var rfl) (sq_of s4)) fun k1 k2 k3 H5 e5 g1 g2 g3 => ?_
    have f5 := e5 _ _ f4
    have s5 := e5 _ _ s4
    refine q_forNLn (el_cat (ev_var rfl) (ev_var rfl) f5 s5 (by omega)) (fun p i σ H' => ∃ y5 y6, σ = [some (.ref a), some (.ref p1), some (.ref pf), some (.ref b), some (.ref k3), y5, y6, none, none] ∧ Ex H5 H' ∧ H' p = some (.lst (xs ++ ys)))
      (fun p H6 hp e6 h6 => ⟨none, none, rfl, e6, h6⟩) (fun p i σ H6 _ hw => ?_) (fun p i x σ H6 hx hw => ?_) (fun p σ H6 hw => ?_)
    · obtain ⟨y5, y6, rfl, e6, h6⟩ := hw
      exact sq_of h6
    · obtain ⟨y5, y6, rfl, e6, h6⟩ := hw
      have okx : Ok x := by
        rcases List.mem_append.mp (List.mem_of_getElem? hx) with h | h
        · exact rX.1 x h
        · exact rY.1 x h
      refine q_when (b := !true) (et_not (et_B (ec_one (ev_var rfl) okx))) (fun hb => nomatch hb) fun _ H7 e7 => ?_
      refine s_forNL (el_cat (ev_var rfl) (ev_var rfl) ((e6.trans e7) _ _ s5) ((e6.trans e7) _ _ f5) (by omega)) (fun p2 i σ H' => ∃ y6, σ = [some (.ref a), some (.ref p1), some (.ref pf), some (.ref b), some (.ref k3), some x, y6, none, none] ∧ Ex H5 H' ∧ H' p = some (.lst (xs ++ ys)) ∧ H' p2 = some (.lst (ys ++ xs)))
        (fun p2 H8 hp2 e8 h8 => ⟨y6, rfl, (e6.trans e7).trans e8, e8 _ _ (e7 _ _ h6), h8⟩) (fun p2 i σ H8 _ hw => ?_) (fun p2 i y σ H8 hy hw => ?_) (fun p2 σ H8 hw => ?_)
      · obtain ⟨y6, rfl, e8, h8, g8⟩ := hw
        exact sq_of g8
      · obtain ⟨y6, rfl, e8, h8, g8⟩ := hw
        have oky : Ok y := by
          rcases List.mem_append.mp (List.mem_of_getElem? hy) with h | h
          · exact rY.1 y h
          · exact rX.1 y h
        refine s_when (b := !true) (et_not (et_B (ec_pair (ev_var rfl) (ev_var rfl) okx oky))) (fun hb => nomatch hb) fun _ H9 e9 => ⟨_, rfl, e8.trans e9, e9 _ _ h8, e9 _ _ g8⟩
      · obtain ⟨y6, rfl, e8, h8, g8⟩ := hw
        exact ⟨_, _, rfl, e8, h8⟩
    · obtain ⟨y5, y6, rfl, e6, h6⟩ := hw
      have f6 := e6 _ _ f5
      have s6 := e6 _ _ s5
      have a0 : atI [V.ref k1, V.ref k2] 0 = some (.ref k1) := atI_nat (j := 0) rfl
      have a1 : atI [V.ref k1, V.ref k2] 1 = some (.ref k2) := atI_nat (j := 1) rfl
      have g16 := e6 _ _ g1
      have g26 := e6 _ _ g2
      have g36 := e6 _ _ g3
      have er : PyData.eqv (rowD xs) (rowD xs) = true := PySem.SeqAt.eqv_refl _ (SeqAt.canLay_of_shaped (shaped_row rX.1))
      refine q_when (b := !PyData.eqv (rowD xs) (rowD xs)) ?_ (fun hb => by rw [er] at hb; cases hb) fun _ H7 e7 => ?_
      · refine et_test (ev_neD (ed_tupU (ec_rr (ev_var rfl) (sq_of f6) rX)) (ed_tupU (ds := xs.map rkD) ?_) (shaped_row rX.1) (shaped_row rX.1))
        rw [← map_get (f := rkD) xs]
        refine ud_tuple (ld_lcL (fun i => rkD (xs.getD i .non)) (ev_op (ev_var rfl) ev_c (rv_ixT (st_of g36) a0)) (sq_of g16) (by omega) (fun i => noL_rk (rX.getD i)) (fun x => rfl) fun i x H8 e8 hi => ?_)
        have ex : xs.getD i .non = x := by rw [List.getD_eq_getElem?_getD, hi] <;> rfl
        have hx : Ok x := ex ▸ rX.getD i
        show EvD K _ _ H8 (rkD (xs.getD i .non))
        rw [ex]
        exact ed_rk (ec_lrank (ev_var rfl) hx) hx
      have f7 := e7 _ _ f6
      have s7 := e7 _ _ s6
      refine q_asg (v := .bl (!ltD (rowD xs) (rowD ys) && !ltD (rowD ys) (rowD xs))) (ev_andV (ev_notV (ec_less (ev_var rfl) (ev_var rfl) (sq_of f7) (sq_of s7) rX rY)) fun _ => ev_notV (ec_less (ev_var rfl) (ev_var rfl) (sq_of s7) (sq_of f7) rY rX)) fun H8 e8 => ?_
      have f8 := e8 _ _ f7
      have s8 := e8 _ _ s7
      refine q_when (b := !true) (et_not (et_B (ec_flag (ec_sr (ev_var rfl) (ev_var rfl) (sq_of f8) (sq_of s8) rX rY) (ev_var rfl) (row_alike rX.1 rY.1)))) (fun hb => nomatch hb) fun _ H9 e9 => ?_
      have f9 := e9 _ _ f8
      have s9 := e9 _ _ s8
      have g19 := ((e7.trans e8).trans e9) _ _ g16
      have g29 := ((e7.trans e8).trans e9) _ _ g26
      have g39 := ((e7.trans e8).trans e9) _ _ g36
      refine q_when (b := !true) (et_not (et_B (ec_flag (ec_rb (ev_var rfl) (ev_var rfl) (sq_of f9) (sq_of s9) rX rY) (ec_less (ev_op (ev_var rfl) ev_c (rv_ixT (st_of g39) a0)) (ev_op (ev_var rfl) ev_c (rv_ixT (st_of g39) a1)) (sq_of g19) (sq_of g29) rX rY) rfl))) (fun hb => nomatch hb) fun _ Ha ea => ?_
      obtain ⟨b1, b2, b3⟩ := sh_vals okF
      obtain ⟨c1, c2, c3⟩ := sh_vals okY
      have hd : ∀ {H : Hp} {p q : Addr} {r : Addr}, H p = some (.lst xs) → H q = some (.lst ys) → H r = some (.tup [.ref p, .ref q]) → Dp K H (.ref r) (.tuple [.list (xs.map datV), .list (ys.map datV)]) := fun h1 h2 h3 =>
        .tup (st_of h3) (.cons (.lst (sq_of h1) (dp_vals okF)) (.cons (.lst (sq_of h2) (dp_vals okY)) .nil))
      have o1 : shOk (.tuple [.list (xs.map datV), .list (ys.map datV)]) = true := by
        show (shOks (xs.map datV) && (shOks (ys.map datV) && true)) = true
        rw [b1, c1]
        rfl
      have o2 : shB (.tuple [.list (xs.map datV), .list (ys.map datV)]) ≤ 1000000 := by
        show 4 + (4 + shBs (xs.map datV) + 2 + (4 + shBs (ys.map datV) + 2 + 0)) ≤ 1000000
        omega
      have o3 : (PyData.tuple [.list (xs.map datV), .list (ys.map datV)]).depth ≤ 60 := by
        show max (PyData.depthAll (xs.map datV) + 1) (max (PyData.depthAll (ys.map datV) + 1) 0) + 1 ≤ 60
        rw [b3, c3]
        decide
      refine s_ret (v := .bl true) ?_ fun Hb _ => rfl
      refine ev_is (ev_op (ev_shown (d := .tuple [.list (xs.map datV), .list (ys.map datV)]) ?_ ref_tup o1 o2 o3) (ev_shown (ed_val (ev_var rfl) (hd (ea _ _ g19) (ea _ _ g29) (ea _ _ g39))) ref_tup o1 o2 o3) (rv_eq rfl)) (by rw [decide_eq_true rfl])
      exact ed_tupU (ud_tup (ad_cons (ed_val (ev_var rfl) (.lst (sq_of (ea _ _ f9)) (dp_vals okF))) (ad_cons (ed_val (ev_var rfl) (.lst (sq_of (ea _ _ s9)) (dp_vals okY))) ad_nil)) (by show 2 ≤ 100000; decide))
end
theorem all_mk {P : Program} {w : World} {K : PySem.W.Frag} {h : Heap} {mg : Str → Option Value} {fa : Addr} (X : K.In h) (G : h.Ns mainGlobals mg) (hfa : mg "law" = some (.ref fa))
    {f0 : Addr} {od0 an0 : Option Addr} {sl0 : Array (Option Value)} {oc0 kV0 dc0 pm0 cd0 ct0 : Value} (a0 : PySem.W.nsIn K mainGlobals "kind_rank" = some (some (.ref f0))) (l0 : K.lookup f0 = some ⟨oc0, od0, .func (PySem.W.fnOf "kind_rank" "kind_rank" (C8.fnArgs s_kind_rank) (C8.fnBody s_kind_rank) (C8.fnScope s_kind_rank) .none kV0 dc0 pm0 an0 cd0 ct0), sl0⟩) (b0 : PySem.W.codeIn K cd0 "kind_rank" = true) (k0 : PySem.W.keepIn K (.ref f0) = true)
    {f1 : Addr} {od1 an1 : Option Addr} {sl1 : Array (Option Value)} {oc1 kV1 dc1 pm1 cd1 ct1 : Value} (a1 : PySem.W.nsIn K mainGlobals "is_integer" = some (some (.ref f1))) (l1 : K.lookup f1 = some ⟨oc1, od1, .func (PySem.W.fnOf "is_integer" "is_integer" (C8.fnArgs s_is_integer) (C8.fnBody s_is_integer) (C8.fnScope s_is_integer) .none kV1 dc1 pm1 an1 cd1 ct1), sl1⟩) (b1 : PySem.W.codeIn K cd1 "is_integer" = true) (k1 : PySem.W.keepIn K (.ref f1) = true)
    {f2 : Addr} {od2 an2 : Option Addr} {sl2 : Array (Option Value)} {oc2 kV2 dc2 pm2 cd2 ct2 : Value} (a2 : PySem.W.nsIn K mainGlobals "rank" = some (some (.ref f2))) (l2 : K.lookup f2 = some ⟨oc2, od2, .func (PySem.W.fnOf "rank" "rank" (C8.fnArgs s_rank) (C8.fnBody s_rank) (C8.fnScope s_rank) .none kV2 dc2 pm2 an2 cd2 ct2), sl2⟩) (b2 : PySem.W.codeIn K cd2 "rank" = true) (k2 : PySem.W.keepIn K (.ref f2) = true)
    {f3 : Addr} {od3 an3 : Option Addr} {sl3 : Array (Option Value)} {oc3 kV3 dc3 pm3 cd3 ct3 : Value} (a3 : PySem.W.nsIn K mainGlobals "row_rank" = some (some (.ref f3))) (l3 : K.lookup f3 = some ⟨oc3, od3, .func (PySem.W.fnOf "row_rank" "row_rank" (C8.fnArgs s_row_rank) (C8.fnBody s_row_rank) (C8.fnScope s_row_rank) .none kV3 dc3 pm3 an3 cd3 ct3), sl3⟩) (b3 : PySem.W.codeIn K cd3 "row_rank" = true) (k3 : PySem.W.keepIn K (.ref f3) = true)
    {f4 : Addr} {od4 an4 : Option Addr} {sl4 : Array (Option Value)} {oc4 kV4 dc4 pm4 cd4 ct4 : Value} (a4 : PySem.W.nsIn K mainGlobals "same" = some (some (.ref f4))) (l4 : K.lookup f4 = some ⟨oc4, od4, .func (PySem.W.fnOf "same" "same" (C8.fnArgs s_same) (C8.fnBody s_same) (C8.fnScope s_same) .none kV4 dc4 pm4 an4 cd4 ct4), sl4⟩) (b4 : PySem.W.codeIn K cd4 "same" = true) (k4 : PySem.W.keepIn K (.ref f4) = true)
    {f5 : Addr} {od5 an5 : Option Addr} {sl5 : Array (Option Value)} {oc5 kV5 dc5 pm5 cd5 ct5 : Value} (a5 : PySem.W.nsIn K mainGlobals "same_rows" = some (some (.ref f5))) (l5 : K.lookup f5 = some ⟨oc5, od5, .func (PySem.W.fnOf "same_rows" "same_rows" (C8.fnArgs s_same_rows) (C8.fnBody s_same_rows) (C8.fnScope s_same_rows) .none kV5 dc5 pm5 an5 cd5 ct5), sl5⟩) (b5 : PySem.W.codeIn K cd5 "same_rows" = true) (k5 : PySem.W.keepIn K (.ref f5) = true)
    {f6 : Addr} {od6 an6 : Option Addr} {sl6 : Array (Option Value)} {oc6 kV6 dc6 pm6 cd6 ct6 : Value} (a6 : PySem.W.nsIn K mainGlobals "before" = some (some (.ref f6))) (l6 : K.lookup f6 = some ⟨oc6, od6, .func (PySem.W.fnOf "before" "before" (C8.fnArgs s_before) (C8.fnBody s_before) (C8.fnScope s_before) .none kV6 dc6 pm6 an6 cd6 ct6), sl6⟩) (b6 : PySem.W.codeIn K cd6 "before" = true) (k6 : PySem.W.keepIn K (.ref f6) = true)
    {f7 : Addr} {od7 an7 : Option Addr} {sl7 : Array (Option Value)} {oc7 kV7 dc7 pm7 cd7 ct7 : Value} (a7 : PySem.W.nsIn K mainGlobals "row_before" = some (some (.ref f7))) (l7 : K.lookup f7 = some ⟨oc7, od7, .func (PySem.W.fnOf "row_before" "row_before" (C8.fnArgs s_row_before) (C8.fnBody s_row_before) (C8.fnScope s_row_before) .none kV7 dc7 pm7 an7 cd7 ct7), sl7⟩) (b7 : PySem.W.codeIn K cd7 "row_before" = true) (k7 : PySem.W.keepIn K (.ref f7) = true)
    {f8 : Addr} {od8 an8 : Option Addr} {sl8 : Array (Option Value)} {oc8 kV8 dc8 pm8 cd8 ct8 : Value} (a8 : PySem.W.nsIn K mainGlobals "_law_numbers" = some (some (.ref f8))) (l8 : K.lookup f8 = some ⟨oc8, od8, .func (PySem.W.fnOf "_law_numbers" "_law_numbers" (C8.fnArgs s__law_numbers) (C8.fnBody s__law_numbers) (C8.fnScope s__law_numbers) .none kV8 dc8 pm8 an8 cd8 ct8), sl8⟩) (b8 : PySem.W.codeIn K cd8 "_law_numbers" = true) (k8 : PySem.W.keepIn K (.ref f8) = true)
    {f9 : Addr} {od9 an9 : Option Addr} {sl9 : Array (Option Value)} {oc9 kV9 dc9 pm9 cd9 ct9 : Value} (a9 : PySem.W.nsIn K mainGlobals "_law_is_integer" = some (some (.ref f9))) (l9 : K.lookup f9 = some ⟨oc9, od9, .func (PySem.W.fnOf "_law_is_integer" "_law_is_integer" (C8.fnArgs s__law_is_integer) (C8.fnBody s__law_is_integer) (C8.fnScope s__law_is_integer) .none kV9 dc9 pm9 an9 cd9 ct9), sl9⟩) (b9 : PySem.W.codeIn K cd9 "_law_is_integer" = true) (k9 : PySem.W.keepIn K (.ref f9) = true)
    {f10 : Addr} {od10 an10 : Option Addr} {sl10 : Array (Option Value)} {oc10 kV10 dc10 pm10 cd10 ct10 : Value} (a10 : PySem.W.nsIn K mainGlobals "_law_rank" = some (some (.ref f10))) (l10 : K.lookup f10 = some ⟨oc10, od10, .func (PySem.W.fnOf "_law_rank" "_law_rank" (C8.fnArgs s__law_rank) (C8.fnBody s__law_rank) (C8.fnScope s__law_rank) .none kV10 dc10 pm10 an10 cd10 ct10), sl10⟩) (b10 : PySem.W.codeIn K cd10 "_law_rank" = true) (k10 : PySem.W.keepIn K (.ref f10) = true)
    {f11 : Addr} {od11 an11 : Option Addr} {sl11 : Array (Option Value)} {oc11 kV11 dc11 pm11 cd11 ct11 : Value} (a11 : PySem.W.nsIn K mainGlobals "_law_text" = some (some (.ref f11))) (l11 : K.lookup f11 = some ⟨oc11, od11, .func (PySem.W.fnOf "_law_text" "_law_text" (C8.fnArgs s__law_text) (C8.fnBody s__law_text) (C8.fnScope s__law_text) .none kV11 dc11 pm11 an11 cd11 ct11), sl11⟩) (b11 : PySem.W.codeIn K cd11 "_law_text" = true) (k11 : PySem.W.keepIn K (.ref f11) = true)
    {f12 : Addr} {od12 an12 : Option Addr} {sl12 : Array (Option Value)} {oc12 kV12 dc12 pm12 cd12 ct12 : Value} (a12 : PySem.W.nsIn K mainGlobals "_law_value" = some (some (.ref f12))) (l12 : K.lookup f12 = some ⟨oc12, od12, .func (PySem.W.fnOf "_law_value" "_law_value" (C8.fnArgs s__law_value) (C8.fnBody s__law_value) (C8.fnScope s__law_value) .none kV12 dc12 pm12 an12 cd12 ct12), sl12⟩) (b12 : PySem.W.codeIn K cd12 "_law_value" = true) (k12 : PySem.W.keepIn K (.ref f12) = true)
    {f13 : Addr} {od13 an13 : Option Addr} {sl13 : Array (Option Value)} {oc13 kV13 dc13 pm13 cd13 ct13 : Value} (a13 : PySem.W.nsIn K mainGlobals "_law_flag" = some (some (.ref f13))) (l13 : K.lookup f13 = some ⟨oc13, od13, .func (PySem.W.fnOf "_law_flag" "_law_flag" (C8.fnArgs s__law_flag) (C8.fnBody s__law_flag) (C8.fnScope s__law_flag) .none kV13 dc13 pm13 an13 cd13 ct13), sl13⟩) (b13 : PySem.W.codeIn K cd13 "_law_flag" = true) (k13 : PySem.W.keepIn K (.ref f13) = true)
    {f14 : Addr} {od14 an14 : Option Addr} {sl14 : Array (Option Value)} {oc14 kV14 dc14 pm14 cd14 ct14 : Value} (a14 : PySem.W.nsIn K mainGlobals "_law_less" = some (some (.ref f14))) (l14 : K.lookup f14 = some ⟨oc14, od14, .func (PySem.W.fnOf "_law_less" "_law_less" (C8.fnArgs s__law_less) (C8.fnBody s__law_less) (C8.fnScope s__law_less) .none kV14 dc14 pm14 an14 cd14 ct14), sl14⟩) (b14 : PySem.W.codeIn K cd14 "_law_less" = true) (k14 : PySem.W.keepIn K (.ref f14) = true)
    {f15 : Addr} {od15 an15 : Option Addr} {sl15 : Array (Option Value)} {oc15 kV15 dc15 pm15 cd15 ct15 : Value} (a15 : PySem.W.nsIn K mainGlobals "_law_pair_right" = some (some (.ref f15))) (l15 : K.lookup f15 = some ⟨oc15, od15, .func (PySem.W.fnOf "_law_pair_right" "_law_pair_right" (C8.fnArgs s__law_pair_right) (C8.fnBody s__law_pair_right) (C8.fnScope s__law_pair_right) .none kV15 dc15 pm15 an15 cd15 ct15), sl15⟩) (b15 : PySem.W.codeIn K cd15 "_law_pair_right" = true) (k15 : PySem.W.keepIn K (.ref f15) = true)
    {f16 : Addr} {od16 an16 : Option Addr} {sl16 : Array (Option Value)} {oc16 kV16 dc16 pm16 cd16 ct16 : Value} (a16 : PySem.W.nsIn K mainGlobals "_law_one_right" = some (some (.ref f16))) (l16 : K.lookup f16 = some ⟨oc16, od16, .func (PySem.W.fnOf "_law_one_right" "_law_one_right" (C8.fnArgs s__law_one_right) (C8.fnBody s__law_one_right) (C8.fnScope s__law_one_right) .none kV16 dc16 pm16 an16 cd16 ct16), sl16⟩) (b16 : PySem.W.codeIn K cd16 "_law_one_right" = true) (k16 : PySem.W.keepIn K (.ref f16) = true)
    {f17 : Addr} {od17 an17 : Option Addr} {sl17 : Array (Option Value)} {oc17 kV17 dc17 pm17 cd17 ct17 : Value} (a17 : PySem.W.nsIn K mainGlobals "law" = some (some (.ref f17))) (l17 : K.lookup f17 = some ⟨oc17, od17, .func (PySem.W.fnOf "law" "law" (C8.fnArgs s_law) (C8.fnBody s_law) (C8.fnScope s_law) .none kV17 dc17 pm17 an17 cd17 ct17), sl17⟩) (b17 : PySem.W.codeIn K cd17 "law" = true) (k17 : PySem.W.keepIn K (.ref f17) = true)
    (z_bool : PySem.W.nsIn K mainGlobals "bool" = some none)
    (z_int : PySem.W.nsIn K mainGlobals "int" = some none)
    (z_isinstance : PySem.W.nsIn K mainGlobals "isinstance" = some none)
    (z_len : PySem.W.nsIn K mainGlobals "len" = some none)
    (z_list : PySem.W.nsIn K mainGlobals "list" = some none)
    (z_min : PySem.W.nsIn K mainGlobals "min" = some none)
    (z_range : PySem.W.nsIn K mainGlobals "range" = some none)
    (z_repr : PySem.W.nsIn K mainGlobals "repr" = some none)
    (z_str : PySem.W.nsIn K mainGlobals "str" = some none)
    (z_tuple : PySem.W.nsIn K mainGlobals "tuple" = some none)
    : ∃ fd : FuncData, C8.Def K mg "law" s_law fa fd ∧ (∀ (s : Shared) (u : Value), BindsTo s fd ⟨[u], []⟩ [("script", u)]) ∧ ∀ (base : Heap) (s : Shared) (H : Hp) (a : Addr) (ns : List Int) (cdv : Value), K.In base → base.Ns mainGlobals mg → ns.length ≤ 63 → SqL K H a (ns.map V.int) → Room 4 (callerA.deeper (envOfC "law" (C8.fnScope s_law) s.heap.objs.size fa cdv)) → ∃ t, PSs (cxOf C8.CX0 P w K mg base n_law "law" (C8.fnScope s_law) fa cdv callerA [] s H C8.E0).nox (C8.fnBody s_law) t ∧ t { nx := fun _ _ => V.non = .bl true, rt := fun v _ => v = .bl true } (start n_law [.ref a]) H := by
  have D_kind_rank : Dn K mg "kind_rank" s_kind_rank ["value"] := dn_mk l0 b0 k0 (PySem.W.mg_of X G a0) (fun _ _ _ _ _ _ us hl => match us, hl with | [_], _ => rfl)
  have D_is_integer : Dn K mg "is_integer" s_is_integer ["value"] := dn_mk l1 b1 k1 (PySem.W.mg_of X G a1) (fun _ _ _ _ _ _ us hl => match us, hl with | [_], _ => rfl)
  have D_rank : Dn K mg "rank" s_rank ["value"] := dn_mk l2 b2 k2 (PySem.W.mg_of X G a2) (fun _ _ _ _ _ _ us hl => match us, hl with | [_], _ => rfl)
  have D_row_rank : Dn K mg "row_rank" s_row_rank ["row"] := dn_mk l3 b3 k3 (PySem.W.mg_of X G a3) (fun _ _ _ _ _ _ us hl => match us, hl with | [_], _ => rfl)
  have D_same : Dn K mg "same" s_same ["first", "second"] := dn_mk l4 b4 k4 (PySem.W.mg_of X G a4) (fun _ _ _ _ _ _ us hl => match us, hl with | [_, _], _ => rfl)
  have D_same_rows : Dn K mg "same_rows" s_same_rows ["first", "second"] := dn_mk l5 b5 k5 (PySem.W.mg_of X G a5) (fun _ _ _ _ _ _ us hl => match us, hl with | [_, _], _ => rfl)
  have D_before : Dn K mg "before" s_before ["first", "second"] := dn_mk l6 b6 k6 (PySem.W.mg_of X G a6) (fun _ _ _ _ _ _ us hl => match us, hl with | [_, _], _ => rfl)
  have D_row_before : Dn K mg "row_before" s_row_before ["first", "second"] := dn_mk l7 b7 k7 (PySem.W.mg_of X G a7) (fun _ _ _ _ _ _ us hl => match us, hl with | [_, _], _ => rfl)
  have D__law_numbers : Dn K mg "_law_numbers" s__law_numbers ["script", "count"] := dn_mk l8 b8 k8 (PySem.W.mg_of X G a8) (fun _ _ _ _ _ _ us hl => match us, hl with | [_, _], _ => rfl)
  have D__law_is_integer : Dn K mg "_law_is_integer" s__law_is_integer ["value"] := dn_mk l9 b9 k9 (PySem.W.mg_of X G a9) (fun _ _ _ _ _ _ us hl => match us, hl with | [_], _ => rfl)
  have D__law_rank : Dn K mg "_law_rank" s__law_rank ["value"] := dn_mk l10 b10 k10 (PySem.W.mg_of X G a10) (fun _ _ _ _ _ _ us hl => match us, hl with | [_], _ => rfl)
  have D__law_text : Dn K mg "_law_text" s__law_text ["number", "size"] := dn_mk l11 b11 k11 (PySem.W.mg_of X G a11) (fun _ _ _ _ _ _ us hl => match us, hl with | [_, _], _ => rfl)
  have D__law_value : Dn K mg "_law_value" s__law_value ["number"] := dn_mk l12 b12 k12 (PySem.W.mg_of X G a12) (fun _ _ _ _ _ _ us hl => match us, hl with | [_], _ => rfl)
  have D__law_flag : Dn K mg "_law_flag" s__law_flag ["told", "due"] := dn_mk l13 b13 k13 (PySem.W.mg_of X G a13) (fun _ _ _ _ _ _ us hl => match us, hl with | [_, _], _ => rfl)
  have D__law_less : Dn K mg "_law_less" s__law_less ["first", "second"] := dn_mk l14 b14 k14 (PySem.W.mg_of X G a14) (fun _ _ _ _ _ _ us hl => match us, hl with | [_, _], _ => rfl)
  have D__law_pair_right : Dn K mg "_law_pair_right" s__law_pair_right ["first", "second"] := dn_mk l15 b15 k15 (PySem.W.mg_of X G a15) (fun _ _ _ _ _ _ us hl => match us, hl with | [_, _], _ => rfl)
  have D__law_one_right : Dn K mg "_law_one_right" s__law_one_right ["value"] := dn_mk l16 b16 k16 (PySem.W.mg_of X G a16) (fun _ _ _ _ _ _ us hl => match us, hl with | [_], _ => rfl)
  have y_bool : mg "bool" = none := PySem.W.mg_none_of X G z_bool
  have y_int : mg "int" = none := PySem.W.mg_none_of X G z_int
  have y_isinstance : mg "isinstance" = none := PySem.W.mg_none_of X G z_isinstance
  have y_len : mg "len" = none := PySem.W.mg_none_of X G z_len
  have y_list : mg "list" = none := PySem.W.mg_none_of X G z_list
  have y_min : mg "min" = none := PySem.W.mg_none_of X G z_min
  have y_range : mg "range" = none := PySem.W.mg_none_of X G z_range
  have y_repr : mg "repr" = none := PySem.W.mg_none_of X G z_repr
  have y_str : mg "str" = none := PySem.W.mg_none_of X G z_str
  have y_tuple : mg "tuple" = none := PySem.W.mg_none_of X G z_tuple
  have e := hfa.symm.trans (PySem.W.mg_of X G a17)
  cases e
  have D_law := def_mk (x := "law") (st := s_law) l17 b17 k17 hfa
  refine ⟨_, D_law, fun s v => .of_eq rfl, fun base s H a ns cdv _ _ h63 hS hr => ?_⟩
  have c_kind_rank := ok_kind_rank (P := P) (w := w) (base := base) D_kind_rank y_bool y_int y_isinstance
  have c_is_integer := ok_is_integer (P := P) (w := w) (base := base) D_is_integer y_bool y_int y_isinstance
  have c_rank := ok_rank (P := P) (w := w) (base := base) D_rank c_kind_rank y_int
  have c_row_rank := ok_row_rank (P := P) (w := w) (base := base) D_row_rank c_rank y_tuple
  have c_same := ok_same (P := P) (w := w) (base := base) D_same c_rank
  have c_same_rows := ok_same_rows (P := P) (w := w) (base := base) D_same_rows c_row_rank
  have c_before := ok_before (P := P) (w := w) (base := base) D_before c_rank
  have c_row_before := ok_row_before (P := P) (w := w) (base := base) D_row_before c_row_rank
  have c__law_numbers := ok__law_numbers (P := P) (w := w) (base := base) D__law_numbers y_int y_len y_range
  have c__law_is_integer := ok__law_is_integer (P := P) (w := w) (base := base) D__law_is_integer y_bool y_int y_isinstance
  have c__law_rank := ok__law_rank (P := P) (w := w) (base := base) D__law_rank y_isinstance y_str
  have c__law_text := ok__law_text (P := P) (w := w) (base := base) D__law_text y_int y_range
  have c__law_value := ok__law_value (P := P) (w := w) (base := base) D__law_value c__law_text y_int
  have c__law_flag := ok__law_flag (P := P) (w := w) (base := base) D__law_flag
  have c__law_less := ok__law_less (P := P) (w := w) (base := base) D__law_less c__law_rank y_len y_min y_range
  have c__law_pair_right := ok__law_pair_right (P := P) (w := w) (base := base) D__law_pair_right c__law_flag c__law_less c__law_rank c_before c_same
  have c__law_one_right := ok__law_one_right (P := P) (w := w) (base := base) D__law_one_right c__law_flag c__law_is_integer c__law_rank c_is_integer c_kind_rank c_rank y_isinstance y_tuple
  exact ok_law (P := P) (w := w) (base := base)  c__law_flag c__law_less c__law_numbers c__law_one_right c__law_pair_right c__law_rank c__law_value c_row_before c_row_rank c_same_rows y_int y_len y_list y_range y_repr y_tuple h63 hS hr
end My
open PySem PySem.W PyProof.Rows
set_option maxHeartbeats 0 in
theorem PySem.Challenge.cw_stylobate_k01_order_of_values_holds : PySem.Challenge.rw_stylobate_k01_order_of_values.Holds := by
  w_on; o_law; k_head; (case hw => w_witness2)
  k_fill
  refine My.walk_here (l := PySem.Challenge.rw_stylobate_k01_order_of_values) (n := 63) (k := 4) rfl (by decide) rfl ⟨rfl, by decide, by decide⟩ (fun w h Y => PySem.W.kIn_of Y) My.sc_law ?F
  case F =>
    intro w mg fa h KX G hmg
    refine' My.all_mk KX G hmg ?a0 ?l0 ?b0 ?k0 ?a1 ?l1 ?b1 ?k1 ?a2 ?l2 ?b2 ?k2 ?a3 ?l3 ?b3 ?k3 ?a4 ?l4 ?b4 ?k4 ?a5 ?l5 ?b5 ?k5 ?a6 ?l6 ?b6 ?k6 ?a7 ?l7 ?b7 ?k7 ?a8 ?l8 ?b8 ?k8 ?a9 ?l9 ?b9 ?k9 ?a10 ?l10 ?b10 ?k10 ?a11 ?l11 ?b11 ?k11 ?a12 ?l12 ?b12 ?k12 ?a13 ?l13 ?b13 ?k13 ?a14 ?l14 ?b14 ?k14 ?a15 ?l15 ?b15 ?k15 ?a16 ?l16 ?b16 ?k16 ?a17 ?l17 ?b17 ?k17 ?z_bool ?z_int ?z_isinstance ?z_len ?z_list ?z_min ?z_range ?z_repr ?z_str ?z_tuple
    (case a0 => k_is); (case l0 => k_is); (case b0 => k_is); (case k0 => k_is); (case a1 => k_is); (case l1 => k_is); (case b1 => k_is); (case k1 => k_is); (case a2 => k_is); (case l2 => k_is); (case b2 => k_is); (case k2 => k_is); (case a3 => k_is); (case l3 => k_is); (case b3 => k_is); (case k3 => k_is); (case a4 => k_is); (case l4 => k_is); (case b4 => k_is); (case k4 => k_is); (case a5 => k_is); (case l5 => k_is); (case b5 => k_is); (case k5 => k_is); (case a6 => k_is); (case l6 => k_is); (case b6 => k_is); (case k6 => k_is); (case a7 => k_is); (case l7 => k_is); (case b7 => k_is); (case k7 => k_is); (case a8 => k_is); (case l8 => k_is); (case b8 => k_is); (case k8 => k_is); (case a9 => k_is); (case l9 => k_is); (case b9 => k_is); (case k9 => k_is); (case a10 => k_is); (case l10 => k_is); (case b10 => k_is); (case k10 => k_is); (case a11 => k_is); (case l11 => k_is); (case b11 => k_is); (case k11 => k_is); (case a12 => k_is); (case l12 => k_is); (case b12 => k_is); (case k12 => k_is); (case a13 => k_is); (case l13 => k_is); (case b13 => k_is); (case k13 => k_is); (case a14 => k_is); (case l14 => k_is); (case b14 => k_is); (case k14 => k_is); (case a15 => k_is); (case l15 => k_is); (case b15 => k_is); (case k15 => k_is); (case a16 => k_is); (case l16 => k_is); (case b16 => k_is); (case k16 => k_is); (case a17 => k_is); (case l17 => k_is); (case b17 => k_is); (case k17 => k_is); (case z_bool => k_is); (case z_int => k_is); (case z_isinstance => k_is); (case z_len => k_is); (case z_list => k_is); (case z_min => k_is); (case z_range => k_is); (case z_repr => k_is); (case z_str => k_is); (case z_tuple => k_is)

