import PyProof.Rows.All
import Wide.All
import OpenK.AllK
import Wide.FinOn
import HandS.ForMost
import HandS.Codes
import HandS.Evl
import HandS.IsInst
import HandS.Wide
import HandS.Dict
import HandS.Iter
import HandS.Text
import HandS.TupLe
import HandS.SortKw
import HandS.StrMore
import HandS.FStr
import PySem.Challenge.RW_stylobate_k05_numbers_as_texts
set_option Elab.async false
set_option linter.all false
set_option maxRecDepth 100000
set_option maxHeartbeats 4000000
namespace My
open PySem PySem.Spec PyProof.Rows L2 Evl
/-! ### defs of the text, promises, the end -/
def Dn (K : PySem.W.Frag) (mg : Str → Option Value) (x : Str) (st : Stmt) (ps : List Str) : Prop := ∃ f fd, C8.Def K mg x st f fd ∧ Binds K fd ps []
section
variable {P : Program} {w : World} {K : PySem.W.Frag} {mg : Str → Option Value} {base : Heap}
theorem cal_of {x : Str} {st : Stmt} {N ps : List Str} {k : Nat} {sp : Sp} (D : Dn K mg x st ps) (S : FnScope N ps (C8.fnScope st)) (len : ∀ vs H Q E, sp vs H Q E → vs.length = ps.length)
    (hbody : ∀ (f : Addr) (cdv : Value) (A : Around) (outer : List Env) (s : Shared) (H : Hp) (vs : List V) (Q : VK) (E : XK), Room k (A.deeper (envOfC x (C8.fnScope st) s.heap.objs.size f cdv)) → sp vs H Q E →
      ∃ t, PSs (cxOf C8.CX0 P w K mg base N x (C8.fnScope st) f cdv A outer s H E).nox (C8.fnBody st) t ∧ t { nx := fun _ H' => Q .non H', rt := Q } (start N vs) H) : C8.Cal P w K mg base (k + 1) x sp [] := by
  obtain ⟨f, fd, F, b⟩ := D
  exact C8.cal0 F b .nil S len (hbody f)
theorem def_mk {x : Str} {st : Stmt} {f : Addr} {oc : Value} {od an : Option Addr} {osl : Array (Option Value)} {kV doc pm cdv ct : Value}
    (l : K.lookup f = some ⟨oc, od, .func (PySem.W.fnOf x x (C8.fnArgs st) (C8.fnBody st) (C8.fnScope st) .none kV doc pm an cdv ct), osl⟩)
    (c : PySem.W.codeIn K cdv x = true) (k : PySem.W.keepIn K (.ref f) = true) (m : mg x = some (.ref f)) : C8.Def K mg x st f (PySem.W.fnOf x x (C8.fnArgs st) (C8.fnBody st) (C8.fnScope st) .none kV doc pm an cdv ct) :=
  ⟨⟨oc, od, .none, kV, doc, pm, an, cdv, ct, osl, rfl, l, c⟩, m, k⟩
theorem dn_mk {x : Str} {st : Stmt} {f : Addr} {oc : Value} {od an : Option Addr} {osl : Array (Option Value)} {kV doc pm cdv ct : Value} {ps : List Str}
    (l : K.lookup f = some ⟨oc, od, .func (PySem.W.fnOf x x (C8.fnArgs st) (C8.fnBody st) (C8.fnScope st) .none kV doc pm an cdv ct), osl⟩)
    (c : PySem.W.codeIn K cdv x = true) (k : PySem.W.keepIn K (.ref f) = true) (m : mg x = some (.ref f))
    (h : ∀ (kV doc pm : Value) (an : Option Addr) (cdv ct : Value) (us : List Value), us.length = ps.length → bindArgs (PySem.W.fnOf x x (C8.fnArgs st) (C8.fnBody st) (C8.fnScope st) .none kV doc pm an cdv ct) ⟨us, []⟩ = pure (ps.zip us)) : Dn K mg x st ps :=
  ⟨f, _, def_mk l c k m, C8.Fun.binds (def_mk l c k m).fn rfl h⟩
end
/-! ### x is True, x is False, of any value -/
def rIsT : R2 := fun x y H Q => ∃ b : Bool, y = .bl b ∧ Q (.bl (decide (x = .bl b))) H
def rNotT : R2 := fun x y H Q => ∃ b : Bool, y = .bl b ∧ Q (.bl (!decide (x = .bl b))) H
section
variable {X : Cx}
theorem rel_bl {x : V} {v : Value} {b : Bool} (rx : RelV x v) : PySem.plainIs v (.bool b) = true ∧ (v == .bool b) = decide (x = .bl b) ∨ ∃ n, v = .builtin n := by
  cases x with
  | non => cases (show v = Value.none from rx); exact .inl ⟨rfl, rfl⟩
  | bl c => cases (show v = Value.bool c from rx); exact .inl ⟨rfl, by cases b <;> cases c <;> rfl⟩
  | int i => obtain ⟨t, e⟩ := (show ∃ t, v = Value.int i t from rx); cases e; exact .inl ⟨rfl, rfl⟩
  | str i => obtain ⟨t, e⟩ := (show ∃ t, v = Value.str i t from rx); cases e; exact .inl ⟨rfl, rfl⟩
  | byt i => obtain ⟨t, e⟩ := (show ∃ t, v = Value.bytes i t from rx); cases e; exact .inl ⟨rfl, rfl⟩
  | flt i => obtain ⟨t, e⟩ := (show ∃ t, v = Value.float i t from rx); cases e; exact .inl ⟨rfl, rfl⟩
  | ref a => cases (show v = Value.ref a from rx); exact .inl ⟨rfl, rfl⟩
  | ty n => cases (show v = Value.type n from rx); exact .inl ⟨rfl, rfl⟩
theorem rel_bl' {x : V} {v : Value} {b : Bool} (rx : RelV x v) : PySem.plainIs v (.bool b) = true ∧ (v == .bool b) = decide (x = .bl b) := by
  rcases rel_bl (b := b) rx with h | ⟨n, rfl⟩
  · exact h
  · cases x <;> first | exact nomatch (rx : Value.builtin n = _) | (obtain ⟨t, e⟩ := rx; exact nomatch e)
theorem op_isTF : OpR X (compareOp .Is) rIsT := by
  intro pins s σ H x y v u Q I rx ry h
  obtain ⟨b, rfl, q⟩ := h
  cases (show u = Value.bool b from ry)
  obtain ⟨h1, h2⟩ := rel_bl' (b := b) rx
  exact wpAny_is_plain h1 ⟨.bl _, H, I, rfl, by rw [h2]; exact q⟩
theorem op_notTF : OpR X (compareOp .IsNot) rNotT := by
  intro pins s σ H x y v u Q I rx ry h
  obtain ⟨b, rfl, q⟩ := h
  cases (show u = Value.bool b from ry)
  obtain ⟨h1, h2⟩ := rel_bl' (b := b) rx
  exact wpAny_isNot_plain h1 ⟨.bl _, H, I, rfl, by rw [h2]; exact q⟩
end
/-! ### what evaluates to what: further -/
section
variable {K : PySem.W.Frag} {σ : L2.St} {H H' : Hp} {ta tb te tx : TE} {t u : TT} {x y z v : V} {r : R2}
theorem rv_isT {b : Bool} : RV rIsT x (.bl b) H (.bl (decide (x = .bl b))) := fun H1 _ _ q => ⟨b, rfl, q H1 (Ex.refl H1)⟩
theorem rv_notT {b : Bool} : RV rNotT x (.bl b) H (.bl (!decide (x = .bl b))) := fun H1 _ _ q => ⟨b, rfl, q H1 (Ex.refl H1)⟩
theorem rv_isN : RV (fun x y H Q => y = .non ∧ Q (.bl (decide (x = .non))) H) x .non H (.bl (decide (x = .non))) := fun H1 _ _ q => ⟨rfl, q H1 (Ex.refl H1)⟩
theorem rv_notN : RV (fun x y H Q => y = .non ∧ Q (.bl (!decide (x = .non))) H) x .non H (.bl (!decide (x = .non))) := fun H1 _ _ q => ⟨rfl, q H1 (Ex.refl H1)⟩
theorem ev_int {i : Int} (h : Ev ta σ H (.int i)) : Ev (tCB (fun xs H Q => (∃ i, xs = [.int i] ∧ Q (.int i) H) ∨ ∃ k, xs = [.bl k] ∧ Q (.int (if k then 1 else 0)) H) (tCons ta tNil)) σ H (.int i) :=
  fun H1 e Q q => h H1 e _ fun H2 e2 => .inl ⟨i, rfl, q H2 e2⟩
theorem ev_intB {b : Bool} (h : Ev ta σ H (.bl b)) : Ev (tCB (fun xs H Q => (∃ i, xs = [.int i] ∧ Q (.int i) H) ∨ ∃ k, xs = [.bl k] ∧ Q (.int (if k then 1 else 0)) H) (tCons ta tNil)) σ H (.int (if b then 1 else 0)) :=
  fun H1 e Q q => h H1 e _ fun H2 e2 => .inr ⟨b, rfl, q H2 e2⟩
theorem ev_abs {i : Int} (h : Ev ta σ H (.int i)) : Ev (tCB (fun xs H Q => ∃ i, xs = [.int i] ∧ Q (.int (if i < 0 then -i else i)) H) (tCons ta tNil)) σ H (.int (if i < 0 then -i else i)) :=
  fun H1 e Q q => h H1 e _ fun H2 e2 => ⟨i, rfl, q H2 e2⟩
theorem ev_min2 {i j : Int} (ha : Ev ta σ H (.int i)) (hb : Ev tb σ H (.int j)) : Ev (tCB (fun xs H Q => ∃ i j, xs = [.int i, .int j] ∧ Q (.int (if j < i then j else i)) H) (tCons ta (tCons tb tNil))) σ H (.int (if j < i then j else i)) := fun H1 e Q q =>
  ha H1 e _ fun H2 e2 => hb H2 (e.trans e2) _ fun H3 e3 => ⟨i, j, rfl, q H3 (e2.trans e3)⟩
theorem ev_lenS {s : Str} (h : Ev ta σ H (.str s)) (hz : s.length ≤ 100000) : Ev (tCB (fun xs H Q => ∃ z, xs = [.str z] ∧ z.length ≤ sizeLine ∧ Q (.int z.length) H) (tCons ta tNil)) σ H (.int s.length) :=
  fun H1 e Q q => h H1 e _ fun H2 e2 => ⟨s, rfl, sz_of hz, q H2 e2⟩
/-- isinstance(x, T) of a plain value -/
def tyOf : V → String
  | .non => "NoneType"
  | .bl _ => "bool"
  | .int _ => "int"
  | .str _ => "str"
  | .byt _ => "bytes"
  | .flt _ => "float"
  | _ => "?"
def isTy (x : V) (T : String) : Bool := ((kitB (tyOf x) T).getD false)
theorem ev_isi {T : String} {tn : String} {b : Bool} (ha : Ev ta σ H x) (ht : ∀ H1, TyX K H1 x (.type tn)) (hk : kitB tn T = some b) : Ev (tCB (rIsi K) (tCons ta (tCons (tC (.ty T)) tNil))) σ H (.bl b) :=
  fun H1 e Q q => ha H1 e _ fun H2 e2 => ⟨x, .ty T, .type tn, .type T, b, rfl, .ty T, ht H2, kit_ty hk, q H2 e2⟩
theorem tx_int (i : Int) (H1 : Hp) : TyX K H1 (.int i) (.type "int") := .base (.int i)
theorem tx_bl (i : Bool) (H1 : Hp) : TyX K H1 (.bl i) (.type "bool") := .base (.bl i)
theorem tx_str (i : Str) (H1 : Hp) : TyX K H1 (.str i) (.type "str") := .base (.str i)
theorem tx_non (H1 : Hp) : TyX K H1 .non (.type "NoneType") := .base .non
section
variable {D : Ends} {tz : TS}
/-- if c: x = e, an int: told by the value x has behind it -/
theorem q_ifI {b : Bool} {i : Nat} {p q : Int} (h : EvT t σ H b) (h1 : b = true → Ev te σ H (.int p)) (h0 : σ[i]? = some (some (.int q))) (k : ∀ H1, Ex H H1 → tz D (σ.set i (some (.int (if b = true then p else q)))) H1) : tSeq (tIfS t (tAsg te (gName i)) tNext) tz D σ H := by
  refine q_ifAsg h (fun hb => ?_) (fun hb => ?_) k
  · rw [if_pos hb]
    exact h1 hb
  · rw [hb]
    show σ.set i (some (V.int q)) = σ
    apply List.ext_getElem?
    intro j
    rw [List.getElem?_set]
    split
    · rename_i e
      subst e
      rw [h0]
      have := (List.getElem?_eq_some_iff.mp h0).1
      rw [if_pos this]
    · rfl
end
/-- a promise of one value, all else as it was -/
theorem spv {sp : Sp} {vs : List V} (h : ∀ H1, Ex H H1 → ∀ Q : VK, (∀ H2, Ex H1 H2 → Q z H2) → ∀ E : XK, sp vs H1 Q E) : SpV sp vs H z := h
end
local macro_rules | `(tactic| walk_at "side") => `(tactic| first
  | exact .inr ⟨by decide, by decide⟩
  | exact .inl ⟨by decide, by decide⟩
  | exact .inl ⟨by omega, by omega⟩
  | exact .inr ⟨by omega, by omega⟩
  | exact ⟨by decide, by decide⟩
  | exact ⟨by omega, by omega⟩
  | decide
  | (show (_ : Int) < _; omega)
  | omega)
local macro_rules | `(tactic| walk_at "rv") => `(tactic| first
  | exact rv_I0
  | ((refine' rv_I ?k1); (case k1 => walk_at "side"))
  | exact rv_isT
  | exact rv_notT
  | exact rv_isN
  | exact rv_notN
  | exact rv_eq rfl
  | exact rv_ne rfl)
local macro_rules | `(tactic| walk_at "sq") => `(tactic| first | assumption | exact ex_l (by assumption) (by assumption) | exact sq_of (by assumption))
/-- what a part gives, read off its form -/
local macro_rules | `(tactic| walk_at "ev") => `(tactic| first
  | exact ev_var rfl
  | exact ev_c
  | ((with_reducible refine' ev_op ?k1 ?k2 ?k3); (case k1 => walk_at "ev"); (case k2 => walk_at "ev"); (case k3 => walk_at "rv"))
  | ((with_reducible refine' ev_un ?k1 ?k2); (case k1 => walk_at "ev"); (case k2 => exact ru_neg))
  | ((with_reducible refine' ev_int ?k1); (case k1 => walk_at "ev"))
  | ((with_reducible refine' ev_abs ?k1); (case k1 => walk_at "ev"))
  | ((with_reducible refine' ev_andV ?k1 ?k2); (case k1 => walk_at "ev"); (case k2 => intro _; walk_at "ev"))
  | ((with_reducible refine' ev_orV ?k1 ?k2); (case k1 => walk_at "ev"); (case k2 => intro _; walk_at "ev"))
  | ((with_reducible refine' ev_notV ?k1); (case k1 => walk_at "ev"))
  | ((refine' ev_len ?k1 ?k2); (case k1 => walk_at "ev"); (case k2 => walk_at "sq")))
local macro_rules | `(tactic| walk_at "et") => `(tactic| first
  | ((with_reducible refine' et_or ?k1 ?k2); (case k1 => walk_at "et"); (case k2 => intro _; walk_at "et"))
  | ((with_reducible refine' et_and ?k1 ?k2); (case k1 => walk_at "et"); (case k2 => intro _; walk_at "et"))
  | ((with_reducible refine' et_not ?k1); (case k1 => walk_at "et"))
  | (refine' et_test ?k1; (case k1 => walk_at "ev"))
  | (refine' et_B ?k1; (case k1 => walk_at "ev")))

/-! ### tuples made, tuples read, data compared -/
def SpU (sp : Sp) (vs : List V) (H : Hp) (xs : List V) : Prop := ∀ H1, Ex H H1 → ∀ Q : VK, (∀ p H2, H1 p = none → Ex H1 H2 → H2 p = some (.tup xs) → Q (.ref p) H2) → ∀ E : XK, sp vs H1 Q E
section
variable {K : PySem.W.Frag} {σ : L2.St} {H H' : Hp} {ta tb te : TE} {x y z v : V}
theorem eu_call {sp : Sp} {dvs vs xs : List V} {E : XK} {ta : TA} (h : EvA ta σ H vs) (hs : SpU sp (vs ++ dvs) H xs) : EvU (tCall sp dvs E ta) σ H xs := fun H1 e Q q =>
  h H1 e _ fun H2 e2 => hs H2 (e.trans e2) Q (fun p H3 hp e3 h3 => q p H3 (fresh_back e2 hp) (e2.trans e3) h3) E
theorem ev_lenT {p : Addr} {xs : List V} (ha : Ev ta σ H (.ref p)) (h : SqT K H p xs) : Ev (tCB (fun xs H Q => ∃ p ys, xs = [.ref p] ∧ (SqL K H p ys ∨ SqT K H p ys) ∧ Q (.int ys.length) H) (tCons ta tNil)) σ H (.int (xs.length : Int)) := fun H1 e Q q =>
  ha H1 e _ fun H2 e2 => ⟨p, xs, rfl, Or.inr (ex_t (e.trans e2) h), q H2 e2⟩
theorem eu_divmod {i j : Int} (ha : Ev ta σ H (.int i)) (hb : Ev tb σ H (.int j)) (hc : CDiv i j) :
    EvU (tCB (fun xs H Q => ∃ i j, xs = [.int i, .int j] ∧ CDiv i j ∧ ∀ p, H p = none → Q (.ref p) (upd H p (.tup [.int (i / j), .int (i % j)]))) (tCons ta (tCons tb tNil))) σ H [.int (i / j), .int (i % j)] := fun H1 e Q q =>
  ha H1 e _ fun H2 e2 => hb H2 (e.trans e2) _ fun H3 e3 => ⟨i, j, rfl, hc, fun p hp => q p _ (fresh_back (e2.trans e3) hp) ((e2.trans e3).trans (Ex.new hp)) upd_same⟩
theorem dp_ints : ∀ ns : List Int, DpAll K H (ns.map V.int) (ns.map PyData.int)
  | [] => .nil
  | n :: r => .cons (.int n) (dp_ints r)
theorem eqv_ints : ∀ ns ms : List Int, PyData.eqv (.tuple (ns.map PyData.int)) (.tuple (ms.map PyData.int)) = decide (ns = ms)
  | [], [] => rfl
  | [], _ :: _ => rfl
  | _ :: _, [] => rfl
  | n :: r, m :: t => by
    have ih := eqv_ints r t
    show ((n == m) && PyData.eqv (.tuple (r.map PyData.int)) (.tuple (t.map PyData.int))) = _
    rw [ih, Bool.eq_iff_iff, Bool.and_eq_true, decide_eq_true_eq, decide_eq_true_eq, beq_iff_eq, List.cons.injEq]
theorem dp_tup {p : Addr} {ns : List Int} (h : SqT K H p (ns.map V.int)) : Dp K H (.ref p) (.tuple (ns.map PyData.int)) := .tup h (dp_ints ns)
def shI (n : Nat) : Bool := SeqAt.shaped (.tuple ((List.replicate n 0).map PyData.int))
theorem rv_neT {p q : Addr} {ns ms : List Int} (hp : SqT K H p (ns.map V.int)) (hq : SqT K H q (ms.map V.int)) (s1 : SeqAt.shaped (.tuple (ns.map PyData.int)) = true) (s2 : SeqAt.shaped (.tuple (ms.map PyData.int)) = true) : RV (rNeD K) (.ref p) (.ref q) H (.bl (!decide (ns = ms))) := fun H1 e Q k =>
  ⟨_, _, dp_tup (ex_t e hp), dp_tup (ex_t e hq), s1, s2, by rw [eqv_ints]; exact k H1 (Ex.refl H1)⟩
theorem tx_tup {a : Addr} {xs : List V} (h : H a = some (.tup xs)) : ∀ H1, Ex H H1 → TyX K H1 (.ref a) (.type "tuple") := fun H1 e => .base (.tup (e _ _ h))
theorem ev_isi' {T : String} {tn : String} {b : Bool} (ha : Ev ta σ H x) (ht : ∀ H1, Ex H H1 → TyX K H1 x (.type tn)) (hk : kitB tn T = some b) : Ev (tCB (rIsi K) (tCons ta (tCons (tC (.ty T)) tNil))) σ H (.bl b) :=
  fun H1 e Q q => ha H1 e _ fun H2 e2 => ⟨x, .ty T, .type tn, .type T, b, rfl, .ty T, ht H2 (e.trans e2), kit_ty hk, q H2 e2⟩
theorem ev_chain {r r' : R2} {tc : TE} {b c : Bool} (ha : Ev ta σ H x) (hb : Ev tb σ H y) (hr : RV r x y H (.bl b)) (hc : b = true → Ev tc σ H z) (hr' : b = true → RV r' y z H (.bl c)) : Ev (tChain r r' ta tb tc) σ H (.bl (b && c)) := fun H1 e Q q =>
  ha H1 e _ fun H2 e2 => hb H2 (e.trans e2) _ fun H3 e3 => hr H3 ((e.trans e2).trans e3) _ fun H4 e4 => ⟨b, rfl, by
    cases b with
    | true =>
      show tc σ H4 fun w' H5 => r' y w' H5 Q
      exact hc rfl H4 (((e.trans e2).trans e3).trans e4) _ fun H5 e5 => hr' rfl H5 ((((e.trans e2).trans e3).trans e4).trans e5) Q fun H6 e6 => q H6 ((((e2.trans e3).trans e4).trans e5).trans e6)
    | false =>
      show Q (.bl false) H4
      exact q H4 ((e2.trans e3).trans e4)⟩
/-- a, b = (..): a new tuple unpacked into names -/
theorem gt2 {p : Addr} {i j : Nat} (h : SqT K H p [x, y]) {Q : L2.St → Hp → Prop} (k : Q ((σ.set i (some x)).set j (some y)) H) : gTup K 2 (gCons (gName i) (gCons (gName j) gNil)) (.ref p) σ H Q :=
  ⟨p, [x, y], rfl, h, rfl, x, [y], rfl, y, [], rfl, rfl, k⟩
theorem gt3 {p : Addr} {i j l : Nat} (h : SqT K H p [x, y, z]) {Q : L2.St → Hp → Prop} (k : Q (((σ.set i (some x)).set j (some y)).set l (some z)) H) : gTup K 3 (gCons (gName i) (gCons (gName j) (gCons (gName l) gNil))) (.ref p) σ H Q :=
  ⟨p, [x, y, z], rfl, h, rfl, x, [y, z], rfl, y, [z], rfl, z, [], rfl, rfl, k⟩
end
theorem hu64 {A : Around} {k : Nat} (hr : Room k A) : A.units + 64 < cLine := by
  have := hr.un
  omega
section
variable {K : PySem.W.Frag} {σ : L2.St} {H : Hp} {te : TE} {D : Ends} {tz : TS} {g : TG} {xs : List V}
theorem q_asgG (h : EvU te σ H xs) (k : ∀ p H1, H p = none → Ex H H1 → H1 p = some (.tup xs) → g (.ref p) σ H1 (tz D)) : tSeq (tAsg te g) tz D σ H := h H (Ex.refl H) _ fun p H1 hp e h1 => k p H1 hp e h1
theorem q_asgV {v : V} (h : Ev te σ H v) (k : ∀ H1, Ex H H1 → g v σ H1 (tz D)) : tSeq (tAsg te g) tz D σ H := h H (Ex.refl H) _ fun H1 e => k H1 e
end
/-! ### plain values and their types -/
inductive Pl : V → Prop where
  | non : Pl .non
  | bl (b : Bool) : Pl (.bl b)
  | int (i : Int) : Pl (.int i)
  | str (s : Str) : Pl (.str s)
def tyN : V → String
  | .bl _ => "bool"
  | .int _ => "int"
  | .str _ => "str"
  | _ => "NoneType"
def isInt : V → Bool
  | .int _ => true
  | _ => false
theorem tx_pl {K : PySem.W.Frag} {x : V} (h : Pl x) (H1 : Hp) : TyX K H1 x (.type (tyN x)) := by
  cases h with
  | non => exact .base .non
  | bl b => exact .base (.bl b)
  | int i => exact .base (.int i)
  | str s => exact .base (.str s)
theorem ev_isiP {K : PySem.W.Frag} {σ : L2.St} {H : Hp} {ta : TE} {x : V} {T : String} {b : Bool} (ha : Ev ta σ H x) (hx : Pl x) (hk : kitB (tyN x) T = some b) : Ev (tCB (rIsi K) (tCons ta (tCons (tC (.ty T)) tNil))) σ H (.bl b) :=
  ev_isi ha (tx_pl hx) hk
/-- isinstance(x, int) and not isinstance(x, bool) -/
theorem ev_isInt {K : PySem.W.Frag} {σ : L2.St} {H : Hp} {ta tb : TE} {x : V} (ha : Ev ta σ H x) (hb : Ev tb σ H x) (hx : Pl x) :
    Ev (tAndV (tCB (rIsi K) (tCons ta (tCons (tC (.ty "int")) tNil))) (tNotV (tCB (rIsi K) (tCons tb (tCons (tC (.ty "bool")) tNil))))) σ H (.bl (isInt x)) := by
  cases hx with
  | non => exact ev_is (ev_andV (ev_isiP (b := false) ha .non (by decide +kernel)) fun z => nomatch z) (show V.bl (false && true) = _ from rfl)
  | bl b => exact ev_is (ev_andV (ev_isiP (b := true) ha (.bl b) (by show kitB "bool" "int" = some true; decide +kernel)) fun _ => ev_notV (ev_isiP (b := true) hb (.bl b) (by show kitB "bool" "bool" = some true; decide +kernel))) rfl
  | int i => exact ev_is (ev_andV (ev_isiP (b := true) ha (.int i) (by show kitB "int" "int" = some true; decide +kernel)) fun _ => ev_notV (ev_isiP (b := false) hb (.int i) (by show kitB "int" "bool" = some false; decide +kernel))) rfl
  | str s => exact ev_is (ev_andV (ev_isiP (b := false) ha (.str s) (by show kitB "str" "int" = some false; decide +kernel)) fun z => nomatch z) (show V.bl (false && true) = _ from rfl)

/-! ### lists made by a comprehension over a range, lists joined -/
theorem ix_listK {X : Cx} {K : PySem.W.Frag} (h : X.K = K) : IxR X (rIxL K) := h ▸ ix_list
theorem ix_tupK {X : Cx} {K : PySem.W.Frag} (h : X.K = K) : IxR X (rIxT K) := h ▸ ix_tup
section
variable {K : PySem.W.Frag} {σ : L2.St} {H : Hp} {ta tb te : TE} {x y z v : V}
theorem el_lcR2 {tr : TA} {j : Nat} {vs : List Nat} {lo n : Int} (f : Nat → V) (h : EvA tr σ H [.int lo, .int n]) (hb : 0 ≤ lo ∧ lo ≤ n ∧ n ≤ 40000) (hw : ∀ x, wipe ((wipe σ vs).set j (some x)) vs = wipe σ vs)
    (he : ∀ (i : Nat) H1, Ex H H1 → lo + (i : Int) < n → Ev te ((wipe σ vs).set j (some (.int (lo + (i : Int))))) H1 (f i)) : EvL (tLc (iRng2 tr) (gName j) tYes te vs) σ H ((List.range (n - lo).toNat).map f) := fun H0 e Q q => h H0 e _ fun H1 e1 =>
  ⟨lo, n, rfl, ⟨by omega, by omega, by omega, by omega⟩, fun D hD =>
    lc_range (lo := lo) (n := (n - lo).toNat) (fun i H' => H1 D = none ∧ Ex H1 H' ∧ H' D = some (.lst ((List.range i).map f))) ⟨hD, Ex.new hD, upd_same⟩
      (fun i H' hi p => by
        obtain ⟨p1, p2, p3⟩ := p
        refine ⟨hw _, ?_⟩
        show te ((wipe σ vs).set j (some (.int (lo + (i : Int))))) H' fun y H4 => ∃ acc, H4 D = some (.lst acc) ∧ acc.length < sizeLine ∧ _
        refine he i H1 (e.trans e1) (by omega) H' p2 _ fun H4 e4 => ⟨_, e4 _ _ p3, sz_lt ?_, p1, Ex.mut (p2.trans e4) p1, ?_⟩
        · rw [List.length_map, List.length_range]; omega
        · rw [List.range_succ, List.map_append]
          exact upd_same)
      (fun H' p => q D H' (fresh_back e1 p.1) (e1.trans p.2.1) p.2.2)⟩
theorem el_cat {l b : Addr} {xs ys : List V} (ha : Ev ta σ H (.ref l)) (hb : Ev tb σ H (.ref b)) (h1 : H l = some (.lst xs)) (h2 : H b = some (.lst ys)) (hz : xs.length + ys.length ≤ 100000) : EvL (tOp rCat ta tb) σ H (xs ++ ys) := fun H1 e Q q =>
  ha H1 e _ fun H2 e2 => hb H2 (e.trans e2) _ fun H3 e3 => ⟨l, b, xs, ys, rfl, rfl, ((e.trans e2).trans e3) _ _ h1, ((e.trans e2).trans e3) _ _ h2, sz_of hz, fun p hp => q p _ (fresh_back (e2.trans e3) hp) ((e2.trans e3).trans (Ex.new hp)) upd_same⟩
/-- (a new list, a new list) -/
theorem q_two {i : Nat} {xs ys : List V} {D : Ends} {tz : TS} (ha : EvL ta σ H xs) (hb : EvL tb σ H ys) (k : ∀ p q r H1, Ex H H1 → H1 p = some (.lst xs) → H1 q = some (.lst ys) → H1 r = some (.tup [.ref p, .ref q]) → tz D (σ.set i (some (.ref r))) H1) :
    tSeq (tAsg (tTup (tCons ta (tCons tb tNil))) (gName i)) tz D σ H :=
  ha H (Ex.refl H) _ fun p H1 hp e1 h1 => hb H1 e1 _ fun q H2 hq e2 h2 => ⟨by show 2 ≤ sizeLine; decide, fun r hr => k p q r _ ((e1.trans e2).trans (Ex.new hr)) (Ex.new hr _ _ (e2 _ _ h1)) (Ex.new hr _ _ h2) upd_same⟩
end

def ab (i : Int) : Int := if i < 0 then -i else i
def limV (n : Int) : V := if -1000000000000000 ≤ n ∧ n ≤ 1000000000000000 then .int n else .non
/-! ### the mathematics: digits -/
abbrev dval : List Nat → Nat := NumText.digitsVal
def isD (c : Nat) : Bool := decide (48 ≤ c) && decide (c ≤ 57)
def digs (l : List Nat) : Bool := !l.isEmpty && l.all isD
theorem uni_dig : ∀ c : Fin 128, Unicode.isDigit c.1 = isD c.1 := by decide +kernel
theorem all_dig : ∀ l : List Nat, (l.all Unicode.isDigit && l.all fun c => decide (c < 128)) = l.all isD
  | [] => rfl
  | c :: r => by
    have ih := all_dig r
    rw [List.all_cons, List.all_cons, List.all_cons, ← ih]
    by_cases h : c < 128
    · rw [decide_eq_true h, show Unicode.isDigit c = isD c from uni_dig ⟨c, h⟩]
      cases isD c <;> cases r.all Unicode.isDigit <;> simp
    · have : isD c = false := by
        unfold isD
        rw [decide_eq_false (show ¬ c ≤ 57 by omega), Bool.and_false]
      rw [this, decide_eq_false h]
      simp
theorem digs_txt (l : List Nat) : (Txt.isdigit (SX.S l) && Txt.isascii (SX.S l)) = digs l := by
  unfold Txt.isdigit Txt.isascii digs
  rw [SX.S_len, show (SX.S l).cps.all Unicode.isDigit = l.all Unicode.isDigit from List.all_toArray, show ((SX.S l).cps.all fun c => decide (c < 128)) = l.all fun c => decide (c < 128) from List.all_toArray, Bool.and_assoc, all_dig]
  cases l <;> rfl
theorem mem_dig {l : List Nat} (h : l.all isD = true) : NumText.AllDigits l := fun c hc => by
  have := List.all_eq_true.mp h c hc
  unfold isD at this
  rw [Bool.and_eq_true, decide_eq_true_eq, decide_eq_true_eq] at this
  exact this
theorem fold_app (l : List Nat) : ∀ a : Nat, l.foldl (fun acc c => acc * 10 + (c - 48)) a = a * 10 ^ l.length + dval l := by
  induction l with
  | nil => intro a; simp [dval, NumText.digitsVal]
  | cons c r ih =>
    intro a
    show r.foldl _ (a * 10 + (c - 48)) = _ + r.foldl _ (0 * 10 + (c - 48))
    rw [ih, ih, List.length_cons, Nat.pow_succ, Nat.add_mul, Nat.zero_mul, Nat.zero_add, Nat.mul_assoc, Nat.mul_comm 10, Nat.add_assoc]
theorem dval_app (l r : List Nat) : dval (l ++ r) = dval l * 10 ^ r.length + dval r := by
  show (l ++ r).foldl _ 0 = _
  rw [List.foldl_append, fold_app]
  rfl
theorem dval_cons (c : Nat) (r : List Nat) : dval (c :: r) = (c - 48) * 10 ^ r.length + dval r := by
  have := dval_app [c] r
  rw [show dval [c] = c - 48 from by show 0 * 10 + (c - 48) = _; omega] at this
  exact this
theorem dval_lt : ∀ l : List Nat, l.all isD = true → dval l < 10 ^ l.length
  | [], _ => by decide
  | c :: r, h => by
    rw [List.all_cons, Bool.and_eq_true] at h
    have ih := dval_lt r h.2
    have hc := mem_dig (l := [c]) (by rw [List.all_cons, h.1]; rfl) c (List.mem_singleton.mpr rfl)
    rw [dval_cons, List.length_cons, Nat.pow_succ]
    have : (c - 48) * 10 ^ r.length ≤ 9 * 10 ^ r.length := Nat.mul_le_mul_right _ (by omega)
    omega
def noZ (l : List Nat) : List Nat := l.dropWhile (fun c => c == 48)
theorem dval_noZ : ∀ l : List Nat, dval (noZ l) = dval l
  | [] => rfl
  | c :: r => by
    unfold noZ
    rw [List.dropWhile_cons]
    split
    · rename_i h
      rw [show List.dropWhile (fun c => c == 48) r = noZ r from rfl, dval_noZ r, dval_cons, beq_iff_eq.mp h, Nat.sub_self, Nat.zero_mul, Nat.zero_add]
    · rfl
theorem all_noZ : ∀ {l : List Nat}, l.all isD = true → (noZ l).all isD = true
  | [], _ => rfl
  | c :: r, h => by
    unfold noZ
    rw [List.dropWhile_cons]
    split
    · exact all_noZ (by rw [List.all_cons, Bool.and_eq_true] at h; exact h.2)
    · exact h
theorem noZ_len (l : List Nat) : (noZ l).length ≤ l.length := (List.dropWhile_suffix _).length_le
/-- more than sixteen digits behind the zeros: beyond every limit -/
theorem noZ_big {l : List Nat} (h : l.all isD = true) (hl : 16 < (noZ l).length) : 10 ^ 16 ≤ dval l := by
  have ha := all_noZ h
  rw [← dval_noZ]
  have hd : ∀ c r, noZ l = c :: r → ¬ c = 48 := fun c r e hc => by
    have := List.head?_dropWhile_not (fun c => c == 48) l
    rw [show List.dropWhile (fun c => c == 48) l = c :: r from e] at this
    simp [hc] at this
  generalize noZ l = z at *
  cases z with
  | nil => simp at hl
  | cons c r =>
    have hc := mem_dig (l := [c]) (by rw [List.all_cons, Bool.and_eq_true] at ha; rw [List.all_cons, ha.1]; rfl) c (List.mem_singleton.mpr rfl)
    have hn := hd c r rfl
    rw [dval_cons]
    have h1 : 10 ^ 16 ≤ 10 ^ r.length := Nat.pow_le_pow_right (by decide) (by simp at hl; omega)
    have h2 : 1 * 10 ^ r.length ≤ (c - 48) * 10 ^ r.length := Nat.mul_le_mul_right _ (by omega)
    omega
theorem con48 : (SX.S [48]).cps.contains = fun c => c == 48 := by
  funext c
  show (#[48] : Array Nat).contains c = _
  rw [Bool.eq_iff_iff]
  simp
theorem tl_S (l : List Nat) : TL.tl (SX.S l) = l := TL.tl_mk l
theorem lstrip_S (l : List Nat) : Txt.lstripChars (SX.S l) (SX.S [48]) = SX.S (noZ l) := by
  unfold Txt.lstripChars
  rw [PySem.W.stripBy_eq, con48]
  apply TL.ext_tl
  unfold PySem.W.stripped
  simp only [if_true, Bool.false_eq_true, if_false]
  rw [TL.tl_strSub, TL.len_tl, tl_S, tl_S]
  show List.take _ (List.drop (List.takeWhile (fun c => c == 48) l).length l) = _
  have e : List.drop (List.takeWhile (fun c => c == 48) l).length l = noZ l := by
    have h := List.takeWhile_append_dropWhile (p := fun c => c == 48) (l := l)
    conv => lhs; arg 2; rw [← h]
    rw [List.drop_left]
    rfl
  rw [e]
  apply List.take_of_length_le
  have h := congrArg List.length (List.takeWhile_append_dropWhile (p := fun c => c == 48) (l := l))
  rw [List.length_append] at h
  have : (noZ l).length = (List.dropWhile (fun c => c == 48) l).length := rfl
  omega
/-- without zeros at the end -/
def noE (l : List Nat) : List Nat := (noZ l.reverse).reverse
theorem rstrip_S (l : List Nat) : Txt.rstripChars (SX.S l) (SX.S [48]) = SX.S (noE l) := by
  unfold Txt.rstripChars
  rw [PySem.W.stripBy_eq, con48]
  apply TL.ext_tl
  unfold PySem.W.stripped
  simp only [if_true, Bool.false_eq_true, if_false]
  rw [TL.tl_strSub, SX.S_len, tl_S, tl_S]
  show List.take (l.length - (List.takeWhile (fun c => c == 48) (List.drop 0 l).reverse).length - 0) (List.drop 0 l) = _
  rw [List.drop_zero, Nat.sub_zero]
  have h := List.takeWhile_append_dropWhile (p := fun c => c == 48) (l := l.reverse)
  have h2 : l = noE l ++ (List.takeWhile (fun c => c == 48) l.reverse).reverse := by
    have := congrArg List.reverse h
    rw [List.reverse_append, List.reverse_reverse] at this
    exact this.symm
  have h3 := congrArg List.length h2
  rw [List.length_append, List.length_reverse] at h3
  conv => lhs; arg 2; rw [h2]
  rw [show l.length - (List.takeWhile (fun c => c == 48) l.reverse).length = (noE l).length by omega, List.take_left]
theorem starts_S (l : List Nat) : Txt.startswith (SX.S l) (SX.S [45]) = decide (l.head? = some 45) := by
  cases l with
  | nil => rfl
  | cons c r =>
    unfold Txt.startswith
    rw [SX.S_len, SX.S_len, decide_eq_true (by simp), Bool.true_and]
    rw [Bool.eq_iff_iff, decide_eq_true_eq]
    show Builtin.Str.subAt (SX.S (c :: r)) (SX.S [45]) 0 = true ↔ some c = some 45
    unfold Builtin.Str.subAt
    simp
    show List.take 1 (c :: r) = [45] ↔ c = 45
    simp
/-- the text without a minus sign in front -/
def noM (l : List Nat) : List Nat := if l.head? = some 45 then l.drop 1 else l
def sgI (l : List Nat) (n : Nat) : Int := if l.head? = some 45 then -(n : Int) else (n : Int)
def rdI (l : List Nat) : V := if digs (noM l) = true then limV (sgI l (dval (noM l))) else .non
theorem numL_pad {r : Nat} (h : r < 10000) : List.replicate (4 - (TL.numL r).length) 48 ++ TL.numL r = [48 + r / 1000, 48 + r / 100 % 10, 48 + r / 10 % 10, 48 + r % 10] := by
  by_cases h1 : r < 10
  · rw [TL.numL_lt h1, show r / 1000 = 0 by omega, show r / 100 = 0 by omega, show r / 10 = 0 by omega, show r % 10 = r by omega]
    rfl
  by_cases h2 : r < 100
  · rw [TL.numL_step (by omega), TL.numL_lt (by omega), show r / 1000 = 0 by omega, show r / 100 = 0 by omega, show r / 10 % 10 = r / 10 by omega]
    rfl
  by_cases h3 : r < 1000
  · rw [TL.numL_step (by omega), TL.numL_step (by omega), TL.numL_lt (by omega), show r / 1000 = 0 by omega, show r / 10 / 10 = r / 100 by omega, show r / 100 % 10 = r / 100 by omega]
    rfl
  · rw [TL.numL_step (by omega), TL.numL_step (by omega), TL.numL_step (by omega), TL.numL_lt (by omega), show r / 10 / 10 / 10 = r / 1000 by omega, show r / 10 / 10 = r / 100 by omega]
    rfl
def four (r : Nat) : List Nat := [48 + r / 1000, 48 + r / 100 % 10, 48 + r / 10 % 10, 48 + r % 10]
theorem zfill_S {r : Nat} (h : r < 10000) : Txt.zfill (SX.S (TL.numL r)) 4 = SX.S (four r) := by
  unfold Txt.zfill four
  rw [← numL_pad h, SX.S_len]
  split
  · rename_i hl
    rw [show 4 - (TL.numL r).length = 0 by omega]
    rfl
  · unfold zfilled
    have hd := TL.numL_digits r
    cases e : TL.numL r with
    | nil => exact absurd e (TL.numL_ne r)
    | cons c t =>
      have hc := hd c (by rw [e]; exact List.mem_cons_self)
      have eg : (SX.S (c :: t)).cps[0]? = some c := rfl
      have e43 : ¬ c = 43 := by omega
      have e45 : ¬ c = 45 := by omega
      rw [eg]
      split
      · rename_i h; exact absurd (Option.some.inj h) e43
      · rename_i h; exact absurd (Option.some.inj h) e45
      · rw [Builtin.Str.padded.eq_1]
        apply TL.ext_tl
        rw [tl_S]
        show ((Array.replicate _ 48 ++ (SX.S (c :: t)).cps ++ Array.replicate 0 0) : Array Nat).toList = _
        simp [SX.S]
def dtx (n : Int) : List Nat := (if n < 0 then [45] else []) ++ (TL.numL (n.natAbs / 10000) ++ (if n.natAbs % 10000 = 0 then [] else 46 :: noE (four (n.natAbs % 10000))))

def topS (i : Nat) : Stmt := PySem.Challenge.pw_stylobate_k05_numbers_as_texts.main.body.getD i (.Pass ⟨0, 0, 0, 0⟩)
abbrev s_is_digits : Stmt := topS 1
abbrev n_is_digits : List Str := ["text"]
theorem sc_is_digits : FnScope n_is_digits ["text"] (C8.fnScope s_is_digits) := C8.fnScope_by (by decide +kernel)
abbrev s_limited : Stmt := topS 6
abbrev n_limited : List Str := ["number"]
theorem sc_limited : FnScope n_limited ["number"] (C8.fnScope s_limited) := C8.fnScope_by (by decide +kernel)
abbrev s_decimal_text : Stmt := topS 7
abbrev n_decimal_text : List Str := ["number", "whole", "rest", "sign", "digits"]
theorem sc_decimal_text : FnScope n_decimal_text ["number"] (C8.fnScope s_decimal_text) := C8.fnScope_by (by decide +kernel)
abbrev s_read_digits : Stmt := topS 8
abbrev n_read_digits : List Str := ["digits", "needed"]
theorem sc_read_digits : FnScope n_read_digits ["digits"] (C8.fnScope s_read_digits) := C8.fnScope_by (by decide +kernel)
abbrev s__signed : Stmt := topS 9
abbrev n__signed : List Str := ["sign", "digits", "size"]
theorem sc__signed : FnScope n__signed ["sign", "digits"] (C8.fnScope s__signed) := C8.fnScope_by (by decide +kernel)
abbrev s_read_integer : Stmt := topS 10
abbrev n_read_integer : List Str := ["text", "sign", "digits"]
theorem sc_read_integer : FnScope n_read_integer ["text"] (C8.fnScope s_read_integer) := C8.fnScope_by (by decide +kernel)
abbrev s_read_decimal : Stmt := topS 11
abbrev n_read_decimal : List Str := ["text", "sign", "size", "whole", "dot", "part"]
theorem sc_read_decimal : FnScope n_read_decimal ["text"] (C8.fnScope s_read_decimal) := C8.fnScope_by (by decide +kernel)
abbrev s__law_numbers : Stmt := topS 13
abbrev n__law_numbers : List Str := ["script", "count", "numbers", "k", "cell"]
theorem sc__law_numbers : FnScope n__law_numbers ["script", "count"] (C8.fnScope s__law_numbers) := C8.fnScope_by (by decide +kernel)
abbrev s__law_is_integer : Stmt := topS 14
abbrev n__law_is_integer : List Str := ["value"]
theorem sc__law_is_integer : FnScope n__law_is_integer ["value"] (C8.fnScope s__law_is_integer) := C8.fnScope_by (by decide +kernel)
abbrev s__law_text : Stmt := topS 15
abbrev n__law_text : List Str := ["number", "size", "signs", "few", "word", "rest", "k"]
theorem sc__law_text : FnScope n__law_text ["number", "size"] (C8.fnScope s__law_text) := C8.fnScope_by (by decide +kernel)
abbrev s__law_number : Stmt := topS 16
abbrev n__law_number : List Str := ["number", "choice", "rest"]
theorem sc__law_number : FnScope n__law_number ["number"] (C8.fnScope s__law_number) := C8.fnScope_by (by decide +kernel)
abbrev s__law_digits : Stmt := topS 17
abbrev n__law_digits : List Str := ["number", "size", "text", "k"]
theorem sc__law_digits : FnScope n__law_digits ["number", "size"] (C8.fnScope s__law_digits) := C8.fnScope_by (by decide +kernel)
abbrev s__law_plain : Stmt := topS 18
abbrev n__law_plain : List Str := ["number", "text", "k"]
theorem sc__law_plain : FnScope n__law_plain ["number"] (C8.fnScope s__law_plain) := C8.fnScope_by (by decide +kernel)
abbrev s__law_decimal_text : Stmt := topS 19
abbrev n__law_decimal_text : List Str := ["number", "size", "text", "places", "last", "k"]
theorem sc__law_decimal_text : FnScope n__law_decimal_text ["number"] (C8.fnScope s__law_decimal_text) := C8.fnScope_by (by decide +kernel)
abbrev s__law_value : Stmt := topS 20
abbrev n__law_value : List Str := ["digits", "value", "sign", "place"]
theorem sc__law_value : FnScope n__law_value ["digits"] (C8.fnScope s__law_value) := C8.fnScope_by (by decide +kernel)
abbrev s__law_read : Stmt := topS 21
abbrev n__law_read : List Str := ["text", "decimal", "digits", "fraction", "at", "value"]
theorem sc__law_read : FnScope n__law_read ["text", "decimal"] (C8.fnScope s__law_read) := C8.fnScope_by (by decide +kernel)
abbrev s__law_told : Stmt := topS 22
abbrev n__law_told : List Str := ["told", "due"]
theorem sc__law_told : FnScope n__law_told ["told", "due"] (C8.fnScope s__law_told) := C8.fnScope_by (by decide +kernel)
abbrev s_law : Stmt := topS 23
abbrev n_law : List Str := ["script", "numbers", "number", "due", "text", "word", "at"]
theorem sc_law : FnScope n_law ["script"] (C8.fnScope s_law) := C8.fnScope_by (by decide +kernel)
/-! ### the law's numbers -/
def cell0 (ns : List Int) (k : Nat) : Int := if 0 < ns.length then ns.getD (k - k / ns.length * ns.length) 0 else 0
def cell1 (ns : List Int) (k : Nat) : Int := if cell0 ns k < 0 then 1 - 2 * cell0 ns k else cell0 ns k
def cellM (c : Int) (k : Nat) : Int := (((c + 101 * (k : Int) + 13) * 40692 + (k : Int) * (k : Int) * 6271) % 2147483399 + 29 * (k : Int) + 5) * 3935559000370003845 % 18446744073709551533
def cellN (ns : List Int) (k : Nat) : Int := if (ns.length : Int) ≤ (k : Int) ∨ cell1 ns k < 1000000000 then cellM (cell1 ns k) k else cell1 ns k
def lawN (ns : List Int) (c : Nat) : List Int := (List.range c).map (cellN ns)
theorem cell1_nn (ns : List Int) (k : Nat) : 0 ≤ cell1 ns k := by
  unfold cell1
  split <;> omega
theorem cellN_nn (ns : List Int) (k : Nat) : 0 ≤ cellN ns k := by
  unfold cellN
  split
  · unfold cellM
    exact Int.emod_nonneg _ (by decide)
  · exact cell1_nn ns k
theorem lawN_len (ns : List Int) (c : Nat) : (lawN ns c).length = c := by
  unfold lawN
  rw [List.length_map, List.length_range]
theorem lawN_nn {ns : List Int} {c : Nat} : ∀ n ∈ lawN ns c, 0 ≤ n := by
  intro n h
  unfold lawN at h
  obtain ⟨k, _, e⟩ := List.mem_map.mp h
  rw [← e]
  exact cellN_nn ns k
theorem lawN_get {ns : List Int} {c i : Nat} (h : i < c) : (lawN ns c)[i]? = some (cellN ns i) := by
  unfold lawN
  rw [List.getElem?_map, List.getElem?_range h] <;> rfl
/-- the k-th of them, as the law's list of values -/
theorem lawN_at {ns : List Int} {c i : Nat} (h : i < c) : atI ((lawN ns c).map V.int) (i : Int) = some (.int (cellN ns i)) := atI_nat (by
  rw [List.getElem?_map, lawN_get h] <;> rfl)
def sp__law_numbers (K : PySem.W.Frag) : Sp := fun vs H Q _ => ∃ (a : Addr) (ns : List Int) (c : Nat), vs = [.ref a, .int (c : Int)] ∧ SqL K H a (ns.map V.int) ∧ ns.length ≤ 63 ∧ c ≤ 1000 ∧
  ∀ p H', H p = none → Ex H H' → H' p = some (.lst ((lawN ns c).map V.int)) → Q (.ref p) H'
section
variable {P : Program} {w : World} {K : PySem.W.Frag} {mg : Str → Option Value} {base : Heap}
theorem ok__law_numbers (D : Dn K mg "_law_numbers" s__law_numbers ["script", "count"]) (z_int : mg "int" = none) (z_len : mg "len" = none) (z_range : mg "range" = none) :
    C8.Cal P w K mg base 1 "_law_numbers" (sp__law_numbers K) [] := by
  refine cal_of D sc__law_numbers (fun vs H Q E h => ?_) (fun f cdv A outer s H vs Q E hr h => ?_)
  · obtain ⟨_, _, _, rfl, _⟩ := h
    rfl
  refine ⟨_, (pss_cons (ps_set (i := 2) sc__law_numbers.nd rfl (.inl rfl) (pe_lst pa_nil))
    (pss_cons (ps_for PassesOwn.never rfl (pi_range1 rfl z_range (pa_cons (pv 1) pa_nil)) (pg_name (i := 3) sc__law_numbers.nd rfl (.inl rfl))
      (pss_cons (ps_set (i := 4) sc__law_numbers.nd rfl (.inl rfl) pe_int)
    (pss_cons (ps_if (pt_cmpR op_gt (pe_callB call_len_seq (by rfl) z_len PySem.boot_len (pa_cons (pv 0) pa_nil)) pe_int (nomark _))
      (pss_one (ps_set (i := 4) sc__law_numbers.nd rfl (.inl rfl) (pe_callTy call_int1 (by rfl) z_int (by decide +kernel) (pa_cons (pe_ix ix_list (pv 0) (pe_op op_sub (pv 3) (pe_op op_mul (pe_op op_fdiv (pv 3) (pe_callB call_len_seq (by rfl) z_len PySem.boot_len (pa_cons (pv 0) pa_nil))) (pe_callB call_len_seq (by rfl) z_len PySem.boot_len (pa_cons (pv 0) pa_nil)))) (fun _ _ => rfl)) pa_nil))))
      pss_nil)
    (pss_cons (ps_if (pt_cmpR op_lt (pv 4) pe_int (nomark _))
      (pss_one (ps_set (i := 4) sc__law_numbers.nd rfl (.inl rfl) (pe_op op_sub pe_int (pe_op op_mul pe_int (pv 4)))))
      pss_nil)
    (Evl.pss_cut (ps_if (PW.pt (pw_or (pt_cmpR op_ge (pv 3) (pe_callB call_len_seq (by rfl) z_len PySem.boot_len (pa_cons (pv 0) pa_nil)) (nomark _)) (pw_or1 (pt_cmpR op_lt (pv 4) pe_int (nomark _)))))
      (pss_cons (ps_set (i := 4) sc__law_numbers.nd rfl (.inl rfl) (pe_op op_mod (pe_callTy call_int1 (by rfl) z_int (by decide +kernel) (pa_cons (pe_op op_add (pe_op op_mul (pe_op op_add (pe_op op_add (pv 4) (pe_op op_mul pe_int (pv 3))) pe_int) pe_int) (pe_op op_mul (pe_op op_mul (pv 3) (pv 3)) pe_int)) pa_nil)) pe_int))
    (pss_one (ps_set (i := 4) sc__law_numbers.nd rfl (.inl rfl) (pe_op op_mod (pe_callTy call_int1 (by rfl) z_int (by decide +kernel) (pa_cons (pe_op op_mul (pe_op op_add (pe_op op_add (pv 4) (pe_op op_mul pe_int (pv 3))) pe_int) pe_int) pa_nil)) pe_int))))
      pss_nil)
    (pss_one (ps_expr (pe_bm PySem.F.plainAttrs_list PySem.F.slot_list_append PySem.F.type_list_append mt_append (pv 2) (pa_cons (pv 4) pa_nil)))))))))
    (pss_one (ps_ret (pv 2))))), ?_⟩
  obtain ⟨a, ns, c, rfl, hS, h63, hc, q⟩ := h
  have hl : (ns.map V.int).length = ns.length := List.length_map _
  refine q_asgL (el_lst ea_nil (by decide)) fun p H1 hp e1 h1 => ?_
  refine q_forR1 (n := (c : Int)) (ea_cons (ev_var rfl) ea_nil) ⟨by omega, by omega⟩
    (fun i σ H' => ∃ y3 y4, σ = [some (.ref a), some (.int (c : Int)), some (.ref p), y3, y4] ∧ Ex H H' ∧ H' p = some (.lst ((lawN ns i).map V.int)))
    (fun H2 e2 => ⟨none, none, rfl, e1.trans e2, e2 _ _ h1⟩) (fun i σ H2 hi hw => ?_) (fun σ H2 hw => ?_)
  · obtain ⟨y3, y4, rfl, e2, h2⟩ := hw
    have hS2 : SqL K H2 a (ns.map V.int) := ex_l e2 hS
    refine q_asg ev_c fun H3 e3 => ?_
    have hS3 : SqL K H3 a (ns.map V.int) := ex_l e3 hS2
    -- the cell as the script has it
    refine q_ifAsg (v := .int (cell0 ns i)) (b := decide ((0 : Int) < ((ns.map V.int).length : Int))) ?_ (fun hb => ?_) (fun hb => ?_) fun H4 e4 => ?_
    · walk_at "et"
    · have h0 : 0 < ns.length := by
        have := of_decide_eq_true hb
        rw [hl] at this
        omega
      have em : i / ns.length * ns.length ≤ i := Nat.div_mul_le_self i ns.length
      have hlt : i - i / ns.length * ns.length < ns.length := by
        have := Nat.mod_lt i h0
        have := Nat.div_add_mod i ns.length
        rw [Nat.mul_comm] at this
        omega
      have ea : atI (ns.map V.int) ((i : Int) - (i : Int) / ((ns.map V.int).length : Int) * ((ns.map V.int).length : Int)) = some (.int (cell0 ns i)) := by
        rw [hl]
        have e5 : (i : Int) - (i : Int) / (ns.length : Int) * (ns.length : Int) = ((i - i / ns.length * ns.length : Nat) : Int) := by
          rw [Int.ofNat_sub em, Int.natCast_mul, Int.natCast_ediv]
        rw [e5]
        refine atI_nat ?_
        unfold cell0
        rw [if_pos h0, List.getElem?_map, List.getElem?_eq_getElem hlt, List.getD_eq_getElem?_getD, List.getElem?_eq_getElem hlt] <;> rfl
      refine ev_int (ev_op (ev_var rfl) (ev_op (ev_var rfl) (ev_op (ev_op (ev_var rfl) (ev_len (ev_var rfl) hS3) (rv_I ⟨?_, ?_⟩)) (ev_len (ev_var rfl) hS3) (rv_I ?_)) rv_I0) (rv_ixL hS3 ea))
      · rw [hl]; omega
      · rw [hl]; omega
      · rw [hl]; exact .inr ⟨by omega, by omega⟩
    · have h0 : ¬ 0 < ns.length := by
        have := of_decide_eq_false hb
        rw [hl] at this
        omega
      unfold cell0
      rw [if_neg h0]
      rfl
    have hS4 : SqL K H4 a (ns.map V.int) := ex_l e4 hS3
    refine q_ifAsg (v := .int (cell1 ns i)) (b := decide (cell0 ns i < 0)) (by walk_at "et") (fun hb => ?_) (fun hb => ?_) fun H5 e5 => ?_
    · refine ev_is (v := .int (1 - 2 * cell0 ns i)) (by walk_at "ev") ?_
      unfold cell1
      rw [if_pos (of_decide_eq_true hb)]
    · unfold cell1
      rw [if_neg (of_decide_eq_false hb)]
      rfl
    have hS5 : SqL K H5 a (ns.map V.int) := ex_l e5 hS4
    have h5 : H5 p = some (.lst ((lawN ns i).map V.int)) := e5 _ _ (e4 _ _ (e3 _ _ h2))
    have x5 : Ex H H5 := ((e2.trans e3).trans e4).trans e5
    -- the cell mixed
    refine q_cut (M := fun σ H' => σ = [some (.ref a), some (.int (c : Int)), some (.ref p), some (.int (i : Int)), some (.int (cellN ns i))] ∧ Ex H5 H') ?_ ?_
    · refine s_if (b := decide ((((ns.map V.int).length : Nat) : Int) ≤ (i : Int)) || decide (cell1 ns i < 1000000000)) ?_ (fun hb H6 e6 => ?_) (fun hb H6 e6 => ?_)
      · exact et_or (et_test (ev_op (ev_var rfl) (ev_len (ev_var rfl) hS5) rv_I0)) fun _ => et_test (ev_op (ev_var rfl) ev_c rv_I0)
      · have hb' : (ns.length : Int) ≤ (i : Int) ∨ cell1 ns i < 1000000000 := by
          rw [Bool.or_eq_true, decide_eq_true_eq, decide_eq_true_eq, hl] at hb
          exact hb
        refine q_asg (v := .int (((cell1 ns i + 101 * (i : Int) + 13) * 40692 + (i : Int) * (i : Int) * 6271) % 2147483399)) ?_ fun H7 e7 => ?_
        · refine ev_op (ev_int (ev_op (ev_op (ev_op (ev_op (ev_var rfl) (ev_op ev_c (ev_var rfl) (rv_I (.inl ⟨by decide, by decide⟩))) rv_I0) ev_c rv_I0) ev_c (rv_I (.inr ⟨by decide, by decide⟩))) (ev_op (ev_op (ev_var rfl) (ev_var rfl) (rv_I (.inl ⟨by omega, by omega⟩))) ev_c (rv_I (.inr ⟨by decide, by decide⟩))) rv_I0)) ev_c (rv_I (by decide))
        refine s_asg (v := .int (cellN ns i)) ?_ fun H8 e8 => ⟨rfl, (e6.trans e7).trans e8⟩
        refine ev_is (ev_op (ev_int (ev_op (ev_op (ev_op (ev_var rfl) (ev_op ev_c (ev_var rfl) (rv_I (.inl ⟨by decide, by decide⟩))) rv_I0) ev_c rv_I0) ev_c (rv_I (.inr ⟨by decide, by decide⟩)))) ev_c (rv_I (by decide))) ?_
        unfold cellN
        rw [if_pos hb']
        rfl
      · have hb' : ¬ ((ns.length : Int) ≤ (i : Int) ∨ cell1 ns i < 1000000000) := by
          intro z
          rw [Bool.or_eq_false_iff, decide_eq_false_iff_not, decide_eq_false_iff_not, hl] at hb
          rcases z with z | z
          · exact hb.1 z
          · exact hb.2 z
        refine ⟨?_, e6⟩
        unfold cellN
        rw [if_neg hb']
        rfl
    · intro σ' H' hm
      obtain ⟨rfl, x6⟩ := hm
      refine s_app (x6 _ _ h5) (ev_var rfl) (ev_var rfl) (by rw [List.length_map, lawN_len]; omega) fun H7 e7 => ?_
      refine ⟨_, _, rfl, Ex.mut ((x5.trans x6).trans e7) hp, ?_⟩
      rw [upd_same]
      unfold lawN
      rw [List.range_succ, List.map_append, List.map_append]
      rfl
  · obtain ⟨y3, y4, rfl, e2, h2⟩ := hw
    have ec : ((c : Int)).toNat = c := by omega
    rw [ec] at h2
    exact s_ret (ev_var rfl) fun H3 e3 => q p H3 hp (e2.trans e3) (e3 _ _ h2)
end

/-! ### the law's texts and values -/
def signsL : List Nat := (PySem.Str.ofString " !\"#$&'()*+,-./0123456789:;<=>?@ABCDEFGHIJKLMNOPQRSTUVWXYZ[\\]^_`abcdefghijklmnopqrstuvwxyz{|}~").cps.toList
def fewL : List Nat := (PySem.Str.ofString "ab*?\\ -'\"A").cps.toList
theorem signs_len : signsL.length = 94 := by decide +kernel
theorem few_len : fewL.length = 10 := by decide +kernel
theorem signs_ok : ∀ c ∈ signsL, 32 ≤ c ∧ c ≤ 126 := by decide +kernel
theorem few_ok : ∀ c ∈ fewL, 32 ≤ c ∧ c ≤ 126 := by decide +kernel
/-- what is written so far, and the rest of the number -/
def lawTS (n : Int) : Nat → List Nat × Int
  | 0 => ([], n / 3)
  | k + 1 => if n % 3 = 0 then ((lawTS n k).1 ++ [signsL.getD ((lawTS n k).2 % 94).toNat 0], (lawTS n k).2 / 94 + 7 * (k : Int))
      else ((lawTS n k).1 ++ [fewL.getD ((lawTS n k).2 % 10).toNat 0], (lawTS n k).2 / 10 + 7 * (k : Int))
def lawT (n : Int) (size : Nat) : List Nat := (lawTS n size).1
def okC (c : Nat) : Prop := 32 ≤ c ∧ c ≤ 126
theorem getD_mem {l : List Nat} {i : Nat} (h : i < l.length) : l.getD i 0 ∈ l := by
  rw [List.getD_eq_getElem?_getD, List.getElem?_eq_getElem h]
  exact List.getElem_mem h
theorem sign_at {l : List Nat} {r : Int} {m : Nat} (hl : l.length = m) (hm : 0 < m) : (r % (m : Int)).toNat < l.length := by
  have h1 := Int.emod_nonneg r (show (m : Int) ≠ 0 by omega)
  have h2 := Int.emod_lt_of_pos r (show (0 : Int) < (m : Int) by omega)
  omega
theorem pick {l : List Nat} {r : Int} {m : Nat} (hl : l.length = m) (hm : 0 < m) : atI l (r % (m : Int)) = some (l.getD (r % (m : Int)).toNat 0) := by
  have hx := sign_at (r := r) hl hm
  have h1 := Int.emod_nonneg r (show (m : Int) ≠ 0 by omega)
  have e : atI l (((r % (m : Int)).toNat : Nat) : Int) = some (l.getD (r % (m : Int)).toNat 0) := atI_nat (by
    rw [List.getElem?_eq_getElem hx, List.getD_eq_getElem?_getD, List.getElem?_eq_getElem hx] <;> rfl)
  rw [Int.toNat_of_nonneg h1] at e
  exact e
theorem lawT_len (n : Int) : ∀ k, (lawT n k).length = k
  | 0 => rfl
  | k + 1 => by
    have ih := lawT_len n k
    unfold lawT at ih ⊢
    rw [lawTS]
    split <;> (show (_ ++ [_]).length = k + 1; rw [List.length_append, ih] <;> rfl)
theorem lawT_ok (n : Int) : ∀ k, ∀ c ∈ lawT n k, okC c
  | 0, c, h => by cases h
  | k + 1, c, h => by
    have ih := lawT_ok n k
    unfold lawT at ih h
    rw [lawTS] at h
    split at h
    · rcases List.mem_append.mp h with h | h
      · exact ih c h
      · rw [List.mem_singleton.mp h]
        exact signs_ok _ (getD_mem (sign_at signs_len (by decide)))
    · rcases List.mem_append.mp h with h | h
      · exact ih c h
      · rw [List.mem_singleton.mp h]
        exact few_ok _ (getD_mem (sign_at few_len (by decide)))
def lawV (n : Int) : V :=
  if n % 8 = 0 then .non else if n % 8 = 1 then .bl (decide (n / 8 % 2 = 0)) else if n % 8 = 2 then .int (n / 8 % 3 - 1)
  else if n % 8 = 3 then .int (n / 8 % 2000000000000001 - 1000000000000000) else if n % 8 = 4 then .int (n / 8 % 3652059 - 719162)
  else if n % 8 = 5 then .int (n / 8 % 40 - 20) else .str (SX.S (lawT (n / 8 / 13) (n / 8 % 13).toNat))
/-- a plain value: None, a boolean, a small integer, a short text of plain signs -/
inductive VOk : V → Prop where
  | non : VOk .non
  | bl (b : Bool) : VOk (.bl b)
  | int (i : Int) (h : -1000000000000000 ≤ i ∧ i ≤ 1000000000000000) : VOk (.int i)
  | str (l : List Nat) (h : l.length ≤ 12) (hc : ∀ c ∈ l, okC c) : VOk (.str (SX.S l))
theorem lawV_ok (n : Int) : VOk (lawV n) := by
  unfold lawV
  split
  · exact .non
  split
  · exact .bl _
  split
  · exact .int _ (by omega)
  split
  · exact .int _ (by omega)
  split
  · exact .int _ (by omega)
  split
  · exact .int _ (by omega)
  · exact .str _ (by rw [lawT_len]; omega) (lawT_ok _ _)
def sp__law_text (K : PySem.W.Frag) : Sp := fun vs H Q _ => ∃ (n : Int) (z : Nat), vs = [.int n, .int (z : Int)] ∧ z ≤ 1000 ∧ ∀ H', Ex H H' → Q (.str (SX.S (lawT n z))) H'
theorem join_ones : ∀ l : List Nat, Txt.join (SX.S []) (l.map fun c => (⟨#[c]⟩ : Str)) = SX.S l := by
  intro l
  have e : (l.map fun c => (⟨#[c]⟩ : Str)) = (l.map fun c => [c]).map SX.S := by
    rw [List.map_map]
    rfl
  rw [e, SX.join_S]
  congr 1
  induction l with
  | nil => rfl
  | cons c r ih =>
    cases r with
    | nil => rfl
    | cons d r => 
      have e2 : TL.joinL [] (List.map (fun c => [c]) (c :: d :: r)) = c :: TL.joinL [] (List.map (fun c => [c]) (d :: r)) := rfl
      rw [e2, ih (by rw [List.map_map]; rfl)]
section
variable {P : Program} {w : World} {K : PySem.W.Frag} {mg : Str → Option Value} {base : Heap}
theorem ok__law_text (D : Dn K mg "_law_text" s__law_text ["number", "size"]) (z_int : mg "int" = none) (z_range : mg "range" = none) :
    C8.Cal P w K mg base 1 "_law_text" (sp__law_text K) [] := by
  refine cal_of D sc__law_text (fun vs H Q E h => ?_) (fun f cdv A outer s H vs Q E hr h => ?_)
  · obtain ⟨_, _, rfl, _⟩ := h
    rfl
  refine ⟨_, (pss_cons (ps_set (i := 2) sc__law_text.nd rfl (.inl rfl) pe_str)
    (pss_cons (ps_set (i := 3) sc__law_text.nd rfl (.inl rfl) pe_str)
    (pss_cons (ps_set (i := 4) sc__law_text.nd rfl (.inl rfl) (pe_lst pa_nil))
    (pss_cons (ps_set (i := 5) sc__law_text.nd rfl (.inl rfl) (pe_op op_fdiv (pe_callTy call_int1 (by rfl) z_int (by decide +kernel) (pa_cons (pv 0) pa_nil)) pe_int))
    (pss_cons (ps_for PassesOwn.never rfl (pi_range1 rfl z_range (pa_cons (pv 1) pa_nil)) (pg_name (i := 6) sc__law_text.nd rfl (.inl rfl))
      (pss_one (ps_if (pt_cmpR op_eq (pe_op op_mod (pe_callTy call_int1 (by rfl) z_int (by decide +kernel) (pa_cons (pv 0) pa_nil)) pe_int) pe_int (nomark _))
      (pss_cons (ps_expr (pe_bm PySem.F.plainAttrs_list PySem.F.slot_list_append PySem.F.type_list_append mt_append (pv 4) (pa_cons (pe_ix ix_str (pv 2) (pe_op op_mod (pe_callTy call_int1 (by rfl) z_int (by decide +kernel) (pa_cons (pv 5) pa_nil)) pe_int) (fun _ _ => rfl)) pa_nil)))
    (pss_one (ps_set (i := 5) sc__law_text.nd rfl (.inl rfl) (pe_op op_add (pe_op op_fdiv (pv 5) pe_int) (pe_op op_mul pe_int (pv 6))))))
      (pss_cons (ps_expr (pe_bm PySem.F.plainAttrs_list PySem.F.slot_list_append PySem.F.type_list_append mt_append (pv 4) (pa_cons (pe_ix ix_str (pv 3) (pe_op op_mod (pe_callTy call_int1 (by rfl) z_int (by decide +kernel) (pa_cons (pv 5) pa_nil)) pe_int) (fun _ _ => rfl)) pa_nil)))
    (pss_one (ps_set (i := 5) sc__law_text.nd rfl (.inl rfl) (pe_op op_add (pe_op op_fdiv (pv 5) pe_int) (pe_op op_mul pe_int (pv 6)))))))))
    (pss_one (ps_ret (pe_join pe_str (pv 4))))))))), ?_⟩
  obtain ⟨n, z, rfl, hz, q⟩ := h
  refine q_asg ev_c fun H1 e1 => ?_
  refine q_asg ev_c fun H2 e2 => ?_
  refine q_asgL (el_lst ea_nil (by decide)) fun p H3 hp e3 h3 => ?_
  refine q_asg (v := .int (n / 3)) (by walk_at "ev") fun H4 e4 => ?_
  have x2 : Ex H H2 := e1.trans e2
  refine q_forR1 (n := (z : Int)) (ea_cons (ev_var rfl) ea_nil) ⟨by omega, by omega⟩
    (fun i σ H' => ∃ y6, σ = [some (.int n), some (.int (z : Int)), some (.str (SX.S signsL)), some (.str (SX.S fewL)), some (.ref p), some (.int (lawTS n i).2), y6] ∧ Ex H2 H' ∧ H' p = some (.lst ((lawT n i).map fun c => V.str ⟨#[c]⟩)))
    (fun H5 e5 => ⟨none, rfl, (e3.trans e4).trans e5, e5 _ _ (e4 _ _ h3)⟩) (fun i σ H5 hi hw => ?_) (fun σ H5 hw => ?_)
  · obtain ⟨y6, rfl, e5, h5⟩ := hw
    have hlen : (((lawT n i).map fun c => V.str ⟨#[c]⟩)).length < 100000 := by
      rw [List.length_map, lawT_len]
      omega
    refine s_if (b := decide (V.int (n % 3) = V.int 0)) (by walk_at "et") (fun hb H6 e6 => ?_) (fun hb H6 e6 => ?_)
    · have hb' : n % 3 = 0 := V.int.inj (of_decide_eq_true hb)
      have hx := sign_at (r := (lawTS n i).2) signs_len (by decide)
      refine q_app (v := .str ⟨#[signsL.getD ((lawTS n i).2 % 94).toNat 0]⟩) (e6 _ _ h5) (ev_var rfl) ?_ hlen fun H7 e7 => ?_
      · refine ev_op (ev_var rfl) (y := .int ((lawTS n i).2 % 94)) (by walk_at "ev") (rv_ixS (by decide +kernel) ?_)
        exact pick (m := 94) signs_len (by decide)
      refine s_asg (v := .int ((lawTS n (i + 1)).2)) ?_ fun H8 e8 => ?_
      · refine ev_is (v := .int ((lawTS n i).2 / 94 + 7 * (i : Int))) (by walk_at "ev") ?_
        rw [lawTS, if_pos hb']
      · refine ⟨_, rfl, (Ex.mut ((e5.trans e6).trans e7) (fresh_back (Ex.refl _) hp)).trans e8, ?_⟩
        refine e8 _ _ ?_
        rw [upd_same]
        unfold lawT
        rw [lawTS, if_pos hb', List.map_append]
        rfl
    · have hb' : ¬ n % 3 = 0 := fun e => of_decide_eq_false hb (by rw [e])
      have hx := sign_at (r := (lawTS n i).2) few_len (by decide)
      refine q_app (v := .str ⟨#[fewL.getD ((lawTS n i).2 % 10).toNat 0]⟩) (e6 _ _ h5) (ev_var rfl) ?_ hlen fun H7 e7 => ?_
      · refine ev_op (ev_var rfl) (y := .int ((lawTS n i).2 % 10)) (by walk_at "ev") (rv_ixS (by decide +kernel) ?_)
        exact pick (m := 10) few_len (by decide)
      refine s_asg (v := .int ((lawTS n (i + 1)).2)) ?_ fun H8 e8 => ?_
      · refine ev_is (v := .int ((lawTS n i).2 / 10 + 7 * (i : Int))) (by walk_at "ev") ?_
        rw [lawTS, if_neg hb']
      · refine ⟨_, rfl, (Ex.mut ((e5.trans e6).trans e7) (fresh_back (Ex.refl _) hp)).trans e8, ?_⟩
        refine e8 _ _ ?_
        rw [upd_same]
        unfold lawT
        rw [lawTS, if_neg hb', List.map_append]
        rfl
  · obtain ⟨y6, rfl, e5, h5⟩ := hw
    have ez : ((z : Int)).toNat = z := by omega
    rw [ez] at h5
    have hl : ((lawT n z).map fun c => V.str ⟨#[c]⟩) = ((lawT n z).map fun c => (⟨#[c]⟩ : Str)).map V.str := by
      rw [List.map_map]
      rfl
    refine ⟨⟨_, rfl⟩, _, rfl, SX.S [], p, (lawT n z).map fun c => (⟨#[c]⟩ : Str), rfl, rfl, .inl (sq_of ?_), ?_, ?_⟩
    · rw [← hl]
      exact h5
    · have e9 : ((lawT n z).map fun c => (⟨#[c]⟩ : Str)).map (·.length) = List.replicate z 1 := by
        rw [List.map_map, List.eq_replicate_iff]
        refine ⟨by rw [List.length_map, lawT_len], fun b hb => ?_⟩
        obtain ⟨c, _, rfl⟩ := List.mem_map.mp hb
        rfl
      rw [e9, List.sum_replicate_nat, List.length_map, lawT_len]
      show z * 1 + z * 0 ≤ _
      omega
    · rw [join_ones]
      exact q _ (x2.trans e5)
theorem ec_text {σ : L2.St} {H : Hp} {ta tb : TE} {E : XK} {n m : Int} (ha : Ev ta σ H (.int n)) (hb : Ev tb σ H (.int m)) (h0 : 0 ≤ m) (h1 : m ≤ 1000) : Ev (tCall (sp__law_text K) [] E (tCons ta (tCons tb tNil))) σ H (.str (SX.S (lawT n m.toNat))) :=
  ev_call (ea_cons ha (ea_cons hb ea_nil)) fun H1 e Q q E => ⟨n, m.toNat, by rw [Int.toNat_of_nonneg h0]; rfl, by omega, q⟩

end
theorem ev_lenX {σ : L2.St} {H : Hp} {ta : TE} {w : List Nat} (ha : Ev ta σ H (.str (SX.S w))) (hz : w.length ≤ 100000) : Ev (tCB (fun xs H Q => ∃ z, xs = [.str z] ∧ z.length ≤ sizeLine ∧ Q (.int z.length) H) (tCons ta tNil)) σ H (.int (w.length : Int)) :=
  ev_is (ev_lenS ha (by rw [SX.S_len]; exact hz)) (by rw [SX.S_len])
section
variable {K : PySem.W.Frag} {σ : L2.St} {H : Hp} {ta tb : TE}
theorem ev_cat {a b : Str} (ha : Ev ta σ H (.str a)) (hb : Ev tb σ H (.str b)) (h : a.length + b.length ≤ 100000) : Ev (tOp (fun x y H Q => ∃ i j, x = .str i ∧ y = .str j ∧ i.length + j.length ≤ sizeLine ∧ Q (.str (i ++ j)) H) ta tb) σ H (.str (a ++ b)) := fun H1 e Q q =>
  ha H1 e _ fun H2 e2 => hb H2 (e.trans e2) _ fun H3 e3 => ⟨a, b, rfl, rfl, sz_of h, q H3 (e2.trans e3)⟩
end
/-! ### the program's numbers as texts -/
theorem c48 : PySem.Str.ofString "0" = SX.S [48] := by decide +kernel
theorem c45 : PySem.Str.ofString "-" = SX.S [45] := by decide +kernel
theorem c46 : PySem.Str.ofString "." = SX.S [46] := by decide +kernel
theorem c00 : PySem.Str.ofString "" = SX.S [] := by decide +kernel
theorem mt_ljustF {X : Cx} : MtR X "str.ljust" fun x xs H Q => ∃ (a f : Str) (i : Int), x = .str a ∧ xs = [.int i, .str f] ∧ PadOk i = true ∧ f.length = 1 ∧ Q (.str (Txt.ljustF a i (f.cps.getD 0 0))) H := by
  intro pins s σ H x xs v us Q I rx rv h
  obtain ⟨a, f, i, rfl, rfl, hp, hf, q⟩ := h
  obtain ⟨t, rfl⟩ := (show ∃ t, v = Value.str a t from rx)
  cases rv with
  | cons r1 rv =>
    cases rv with
    | cons r2 rv =>
      cases rv
      obtain ⟨u, rfl⟩ := r1
      obtain ⟨u2, rfl⟩ := r2
      exact ljust_fill hp hf fun t' k => ⟨.str _, H, I.tok k, ⟨t', rfl⟩, q⟩
section
variable {K : PySem.W.Frag} {σ : L2.St} {H : Hp} {D : Ends} {te ta tl th tb : TE}
theorem ev_m0 {r : V → List V → Hp → VK → Prop} {a : Str} {z : V} (h : Ev ta σ H (.str a)) (hr : ∀ H1 Q, (∀ H2, Ex H1 H2 → Q z H2) → r (.str a) [] H1 Q) : Ev (tM0 r ta) σ H z := fun H1 e Q q => h H1 e _ fun H2 e2 => ⟨⟨_, rfl⟩, hr H2 Q fun H3 e3 => q H3 (e2.trans e3)⟩
theorem ev_m1 {r : V → List V → Hp → VK → Prop} {a : Str} {y z : V} (h : Ev ta σ H (.str a)) (hb : Ev tb σ H y) (hr : ∀ H1 Q, (∀ H2, Ex H1 H2 → Q z H2) → r (.str a) [y] H1 Q) : Ev (tM1 r ta tb) σ H z := fun H1 e Q q =>
  h H1 e _ fun H2 e2 => ⟨⟨_, rfl⟩, hb H2 (e.trans e2) _ fun H3 e3 => hr H3 Q fun H4 e4 => q H4 ((e2.trans e3).trans e4)⟩
theorem ev_bmS {r : V → List V → Hp → VK → Prop} {a : Str} {z : V} {tr : TA} {ys : List V} (h : Ev ta σ H (.str a)) (hb : EvA tr σ H ys) (hr : ∀ H1 Q, (∀ H2, Ex H1 H2 → Q z H2) → r (.str a) ys H1 Q) : Ev (tBM K "str" r ta tr) σ H z := fun H1 e Q q =>
  h H1 e _ fun H2 e2 => ⟨rfl, hb H2 (e.trans e2) _ fun H3 e3 => hr H3 Q fun H4 e4 => q H4 ((e2.trans e3).trans e4)⟩
theorem ev_intS {a : Str} {n : Int} (h : Ev ta σ H (.str a)) (hn : intText? a = some n) (hl : a.length ≤ 640) : Ev (tCB (fun xs H Q => ∃ a n, xs = [.str a] ∧ intText? a = some n ∧ a.length ≤ 640 ∧ Q (.int n) H) (tCons ta tNil)) σ H (.int n) := fun H1 e Q q =>
  h H1 e _ fun H2 e2 => ⟨a, n, rfl, hn, hl, q H2 e2⟩
theorem ev_slF {to : TO} {l : List Nat} {i : Nat} (ha : Ev ta σ H (.str (SX.S l))) (hl : Ev tl σ H (.int (i : Int))) (hn : ∀ σ H Q, Q none H → to σ H Q) (hz : l.length ≤ 100000) : Ev (tSl C8.rSlX ta (tPart tl) to) σ H (.str (SX.S (l.drop i))) := fun H1 e Q q =>
  ha H1 e _ fun H2 e2 => hl H2 (e.trans e2) _ fun H3 e3 => ⟨_, rfl, hn _ _ _ ⟨SX.S l, rfl, by rw [SX.S_len]; exact sz_of hz, by rw [SX.slice_from (by omega), Int.toNat_natCast]; exact q H3 (e2.trans e3)⟩⟩
theorem eu_part {a b : Str} (ha : Ev ta σ H (.str a)) (hb : Ev tb σ H (.str b)) (h1 : (b.length == 0) = false) (hz : a.length ≤ 100000) : EvU (tM1 (fun x xs H Q => ∃ a b, x = .str a ∧ xs = [.str b] ∧ (b.length == 0) = false ∧ a.length ≤ sizeLine ∧ ∀ p, H p = none → Q (.ref p) (upd H p (.tup [.str (Txt.partition a b).1, .str (Txt.partition a b).2.1, .str (Txt.partition a b).2.2]))) ta tb) σ H [.str (Txt.partition a b).1, .str (Txt.partition a b).2.1, .str (Txt.partition a b).2.2] := fun H1 e Q q =>
  ha H1 e _ fun H2 e2 => ⟨⟨_, rfl⟩, hb H2 (e.trans e2) _ fun H3 e3 => ⟨a, b, rfl, rfl, h1, sz_of hz, fun p hp => q p _ (fresh_back (e2.trans e3) hp) ((e2.trans e3).trans (Ex.new hp)) upd_same⟩⟩
end
def pt3 (l : List Nat) : List Nat × List Nat × List Nat := match TL.par [46] [] l with
  | some (a, b) => (a, [46], b)
  | none => (l, [], [])
theorem part_S (l : List Nat) : Txt.partition (SX.S l) (SX.S [46]) = (SX.S (pt3 l).1, SX.S (pt3 l).2.1, SX.S (pt3 l).2.2) := by
  unfold pt3
  cases h : TL.par [46] [] l with
  | none => exact SX.partition_none (by decide) h
  | some p =>
    obtain ⟨a, b⟩ := p
    exact SX.partition_some (by decide) h
theorem pt3_len (l : List Nat) : (pt3 l).1.length ≤ l.length ∧ (pt3 l).2.2.length ≤ l.length := by
  have h : ∀ (l acc : List Nat) a b, TL.par [46] acc l = some (a, b) → a.length ≤ acc.length + l.length ∧ b.length ≤ l.length := by
    intro l
    induction l with
    | nil => intro acc a b h; exact nomatch h
    | cons c r ih =>
      intro acc a b h
      by_cases e : TL.pre [46] (c :: r) = true
      · rw [TL.par_hit e] at h
        have := Option.some.inj h
        obtain ⟨rfl, rfl⟩ := Prod.mk.inj this
        exact ⟨Nat.le_add_right _ _, by simp⟩
      · rw [TL.par_miss (by simpa using e)] at h
        have := ih _ _ _ h
        simp only [List.length_append, List.length_cons, List.length_nil] at this ⊢
        omega
  unfold pt3
  cases e : TL.par [46] [] l with
  | none => exact ⟨Nat.le_refl _, Nat.zero_le _⟩
  | some p =>
    obtain ⟨a, b⟩ := p
    have := h l [] a b e
    simp only [List.length_nil] at this
    exact ⟨by show a.length ≤ _; omega, this.2⟩
def pad4 (p : List Nat) : List Nat := p ++ List.replicate (4 - p.length) 48
def rdD (l : List Nat) : V :=
  if digs (pt3 (noM l)).1 = true then (if (pt3 (noM l)).2.1 ≠ [] ∧ ¬ (digs (pt3 (noM l)).2.2 = true ∧ (pt3 (noM l)).2.2.length ≤ 4) then .non else limV (sgI l (dval ((pt3 (noM l)).1 ++ pad4 (pt3 (noM l)).2.2)))) else .non
theorem ljust_S (p : List Nat) : Txt.ljustF (SX.S p) 4 ((SX.S [48]).cps.getD 0 0) = SX.S (pad4 p) := by
  apply TL.ext_tl
  rw [tl_S]
  show (Txt.ljustF (SX.S p) 4 48).cps.toList = _
  rw [ljustF_list, SX.S_len]
  rfl
def sp_is_digits (K : PySem.W.Frag) : Sp := fun vs H Q _ => ∃ l : List Nat, vs = [.str (SX.S l)] ∧ ∀ H', Ex H H' → Q (.bl (digs l)) H'
def sp_limited (K : PySem.W.Frag) : Sp := fun vs H Q _ => ∃ n : Int, vs = [.int n] ∧ ∀ H', Ex H H' → Q (limV n) H'
def sp_read_digits (K : PySem.W.Frag) : Sp := fun vs H Q _ => ∃ l : List Nat, vs = [.str (SX.S l)] ∧ l.all isD = true ∧ l.length ≤ 600 ∧ ∀ H', Ex H H' → Q (limV (dval l : Nat)) H'
def sp__signed (K : PySem.W.Frag) : Sp := fun vs H Q _ => ∃ (b : Bool) (l : List Nat), vs = [.bl b, .str (SX.S l)] ∧ l.all isD = true ∧ l.length ≤ 600 ∧ ∀ H', Ex H H' → Q (limV (if b = true then -((dval l : Nat) : Int) else (dval l : Nat))) H'
def sp_read_integer (K : PySem.W.Frag) : Sp := fun vs H Q _ => ∃ l : List Nat, vs = [.str (SX.S l)] ∧ l.length ≤ 600 ∧ ∀ H', Ex H H' → Q (rdI l) H'
def sp_read_decimal (K : PySem.W.Frag) : Sp := fun vs H Q _ => ∃ l : List Nat, vs = [.str (SX.S l)] ∧ l.length ≤ 200 ∧ ∀ H', Ex H H' → Q (rdD l) H'
def sp_decimal_text (K : PySem.W.Frag) : Sp := fun vs H Q _ => ∃ n : Int, vs = [.int n] ∧ n.natAbs < 10 ^ 30 ∧ ∀ H', Ex H H' → Q (.str (SX.S (dtx n))) H'
section
variable {P : Program} {w : World} {K : PySem.W.Frag} {mg : Str → Option Value} {base : Heap}
theorem ok_is_digits (D : Dn K mg "is_digits" s_is_digits ["text"]) :
    C8.Cal P w K mg base 1 "is_digits" (sp_is_digits K) [] := by
  refine cal_of D sc_is_digits (fun vs H Q E h => ?_) (fun f cdv A outer s H vs Q E hr h => ?_)
  · obtain ⟨_, rfl, _⟩ := h
    rfl
  refine ⟨_, (pss_one (ps_ret (pe_and (pe_m0 PySem.F.slot_str_isdigit PySem.F.type_str_isdigit mt_isdigit (pv 0) ) (pe_one (pe_m0 PySem.F.slot_str_isascii PySem.F.type_str_isascii mt_isascii (pv 0) ))))), ?_⟩
  obtain ⟨l, rfl, q⟩ := h
  refine s_ret (v := .bl (digs l)) (ev_is (v := .bl (Txt.isdigit (SX.S l) && Txt.isascii (SX.S l))) (ev_andV (ev_m0 (ev_var rfl) fun H1 Q q => ⟨_, rfl, rfl, trivial, q H1 (Ex.refl H1)⟩) fun _ => ev_m0 (ev_var rfl) fun H1 Q q => ⟨_, rfl, rfl, trivial, q H1 (Ex.refl H1)⟩) (by rw [digs_txt])) fun H1 e1 => q H1 e1
theorem ok_limited (D : Dn K mg "limited" s_limited ["number"]) (g_GREATEST : ∃ u, mg "GREATEST" = some u ∧ RelV (.int (1000000000000000)) u) :
    C8.Cal P w K mg base 1 "limited" (sp_limited K) [] := by
  refine cal_of D sc_limited (fun vs H Q E h => ?_) (fun f cdv A outer s H vs Q E hr h => ?_)
  · obtain ⟨_, rfl, _⟩ := h
    rfl
  refine ⟨_, (pss_cons (ps_if (pt_chain op_le op_le (pe_un un_neg (C8.pe_gc rfl g_GREATEST)) (pv 0) (C8.pe_gc rfl g_GREATEST))
      (pss_one (ps_ret (pv 0)))
      pss_nil)
    (pss_one (ps_ret pe_non))), ?_⟩
  obtain ⟨n, rfl, q⟩ := h
  refine q_when (b := decide (-1000000000000000 ≤ n) && decide (n ≤ 1000000000000000)) (et_test (ev_chain (ev_un ev_c ru_neg) (ev_var rfl) rv_I0 (fun _ => ev_c) (fun _ => rv_I0))) (fun hb H1 e1 => s_ret (v := limV n) ?_ fun H2 e2 => q _ (e1.trans e2)) fun hb H1 e1 => s_ret (v := limV n) ?_ fun H2 e2 => q _ (e1.trans e2)
  · rw [Bool.and_eq_true, decide_eq_true_eq, decide_eq_true_eq] at hb
    refine ev_is (ev_var rfl) ?_
    unfold limV
    rw [if_pos hb]
  · refine ev_is ev_c ?_
    unfold limV
    rw [if_neg]
    intro z
    rw [decide_eq_true z.1, decide_eq_true z.2] at hb
    cases hb
theorem ec_lim {σ : L2.St} {H : Hp} {ta : TE} {E : XK} {n : Int} (ha : Ev ta σ H (.int n)) : Ev (tCall (sp_limited K) [] E (tCons ta tNil)) σ H (limV n) := ev_call (ea_cons ha ea_nil) fun H1 e Q q E => ⟨n, rfl, q⟩
theorem ec_digs {σ : L2.St} {H : Hp} {ta : TE} {E : XK} {l : List Nat} (ha : Ev ta σ H (.str (SX.S l))) : Ev (tCall (sp_is_digits K) [] E (tCons ta tNil)) σ H (.bl (digs l)) := ev_call (ea_cons ha ea_nil) fun H1 e Q q E => ⟨l, rfl, q⟩
theorem ok_read_digits (D : Dn K mg "read_digits" s_read_digits ["digits"]) (c_limited : C8.Cal P w K mg base 1 "limited" (sp_limited K) []) (z_int : mg "int" = none) (z_len : mg "len" = none) (g__MOST_DIGITS : ∃ u, mg "_MOST_DIGITS" = some u ∧ RelV (.int (16)) u) :
    C8.Cal P w K mg base 2 "read_digits" (sp_read_digits K) [] := by
  refine cal_of D sc_read_digits (fun vs H Q E h => ?_) (fun f cdv A outer s H vs Q E hr h => ?_)
  · obtain ⟨_, rfl, _⟩ := h
    rfl
  refine ⟨_, (pss_cons (ps_set (i := 1) sc_read_digits.nd rfl (.inl rfl) (pe_m1 PySem.F.slot_str_lstrip PySem.F.type_str_lstrip mt_lstripChars (pv 0) pe_str))
    (pss_cons (ps_if (pt_cmpR op_gt (pe_callB call_len_str (by rfl) z_len PySem.boot_len (pa_cons (pv 1) pa_nil)) (C8.pe_gc rfl g__MOST_DIGITS) (nomark _))
      (pss_one (ps_ret pe_non))
      pss_nil)
    (pss_one (ps_ret (pe_ifExp (pt_cmpR op_ne (pv 1) pe_str (nomark _)) (C8.pe_c c_limited hr (by decide) (by rfl) (pa_cons (pe_callTy call_int_str (by rfl) z_int (by decide +kernel) (pa_cons (pv 1) pa_nil)) pa_nil)) pe_int))))), ?_⟩
  obtain ⟨l, rfl, hl, hz, q⟩ := h
  have hzn := noZ_len l
  refine q_asg (v := .str (SX.S (noZ l))) (ev_is (ev_m1 (ev_var rfl) ev_c fun H1 Q q => ⟨_, PySem.Str.ofString "0", rfl, rfl, by rw [SX.S_len]; exact sz_of (by omega), q H1 (Ex.refl H1)⟩) (by rw [c48, lstrip_S])) fun H1 e1 => ?_
  refine q_when (et_test (ev_op (ev_lenX (ev_var rfl) (by omega)) ev_c rv_I0)) (fun hb H2 e2 => s_ret (v := limV (dval l : Nat)) (ev_is ev_c ?_) fun H3 e3 => q _ ((e1.trans e2).trans e3)) fun hb H2 e2 => ?_
  · have h1 := of_decide_eq_true hb
    have h2 := noZ_big hl (by omega)
    unfold limV
    rw [if_neg (by omega)]
  · refine s_ret (v := limV (dval l : Nat)) (ev_if (et_test (ev_op (ev_var rfl) ev_c (rv_ne rfl))) (fun hc => ?_) fun hc => ?_) fun H3 e3 => q _ ((e1.trans e2).trans e3)
    · refine ec_lim (ev_intS (ev_var rfl) ?_ (by rw [SX.S_len]; omega))
      have hne : noZ l ≠ [] := fun e => by
        rw [e, c00] at hc
        simp at hc
      rw [SX.int_S (a := noZ l) (all_noZ hl) hne (by omega)]
      show some ((dval (noZ l) : Nat) : Int) = _
      rw [dval_noZ]
    · have hne : noZ l = [] := by
        rw [c00] at hc
        simp at hc
        exact hc
      refine ev_is ev_c ?_
      rw [← dval_noZ, hne]
      rfl
theorem ec_rdig {σ : L2.St} {H : Hp} {ta : TE} {E : XK} {l : List Nat} (ha : Ev ta σ H (.str (SX.S l))) (hl : l.all isD = true) (hz : l.length ≤ 600) : Ev (tCall (sp_read_digits K) [] E (tCons ta tNil)) σ H (limV (dval l : Nat)) := ev_call (ea_cons ha ea_nil) fun H1 e Q q E => ⟨l, rfl, hl, hz, q⟩
theorem ok__signed (D : Dn K mg "_signed" s__signed ["sign", "digits"]) (c_read_digits : C8.Cal P w K mg base 2 "read_digits" (sp_read_digits K) []) :
    C8.Cal P w K mg base 3 "_signed" (sp__signed K) [] := by
  refine cal_of D sc__signed (fun vs H Q E h => ?_) (fun f cdv A outer s H vs Q E hr h => ?_)
  · obtain ⟨_, _, rfl, _⟩ := h
    rfl
  refine ⟨_, (pss_cons (ps_set (i := 2) sc__signed.nd rfl (.inl rfl) (C8.pe_c c_read_digits hr (by decide) (by rfl) (pa_cons (pv 1) pa_nil)))
    (pss_one (ps_ret (pe_ifExp (PW.pt (pw_and (pt_val (pv 0)) (pw_and1 (pt_cmpR op_notN (pv 2) pe_non (nomark _))))) (pe_un un_neg (pv 2)) (pv 2))))), ?_⟩
  obtain ⟨b, l, rfl, hl, hz, q⟩ := h
  refine q_asg (ec_rdig (ev_var rfl) hl hz) fun H1 e1 => ?_
  refine s_ret (v := limV (if b = true then -((dval l : Nat) : Int) else (dval l : Nat))) (ev_if (et_and (et_B (ev_var rfl)) fun _ => et_test (ev_op (ev_var rfl) ev_c rv_notN)) (fun hc => ?_) fun hc => ?_) fun H2 e2 => q _ (e1.trans e2)
  · rw [Bool.and_eq_true] at hc
    have hn : ∃ i : Int, limV (dval l : Nat) = .int i ∧ i = (dval l : Nat) ∧ i ≤ 1000000000000000 := by
      unfold limV at hc ⊢
      split
      · exact ⟨_, rfl, rfl, by omega⟩
      · rename_i h; rw [if_neg h] at hc; exact nomatch hc.2
    obtain ⟨i, e1, e2, e3⟩ := hn
    rw [e1]
    refine ev_is (ev_un (ev_var rfl) ru_neg) ?_
    rw [if_pos hc.1, ← e2]
    unfold limV
    rw [if_pos (by omega)]
  · refine ev_is (ev_var rfl) ?_
    cases b with
    | false => rfl
    | true =>
      rw [Bool.true_and] at hc
      unfold limV at hc ⊢
      rw [if_pos rfl]
      split
      · rename_i h; rw [if_pos h] at hc; simp at hc
      · rename_i h; rw [if_neg (by omega)]
theorem ec_sgn {σ : L2.St} {H : Hp} {ta tb : TE} {E : XK} {b : Bool} {l : List Nat} (hb : Ev tb σ H (.bl b)) (ha : Ev ta σ H (.str (SX.S l))) (hl : l.all isD = true) (hz : l.length ≤ 600) : Ev (tCall (sp__signed K) [] E (tCons tb (tCons ta tNil))) σ H (limV (if b = true then -((dval l : Nat) : Int) else (dval l : Nat))) := ev_call (ea_cons hb (ea_cons ha ea_nil)) fun H1 e Q q E => ⟨b, l, rfl, hl, hz, q⟩
theorem noM_len (l : List Nat) : (noM l).length ≤ l.length := by
  unfold noM
  split
  · rw [List.length_drop]; omega
  · exact Nat.le_refl _
theorem digs_all {l : List Nat} (h : digs l = true) : l.all isD = true := by
  unfold digs at h
  rw [Bool.and_eq_true] at h
  exact h.2
theorem ev_min {σ : L2.St} {H : Hp} {ta : TE} {l : List Nat} (h : Ev ta σ H (.str (SX.S l))) : Ev (tM1 (fun x xs H Q => ∃ a b, x = .str a ∧ xs = [.str b] ∧ Q (.bl (Txt.startswith a b)) H) ta (tC (.str (PySem.Str.ofString "-")))) σ H (.bl (decide (l.head? = some 45))) :=
  ev_is (ev_m1 h ev_c fun H1 Q q => ⟨_, _, rfl, rfl, q H1 (Ex.refl H1)⟩) (by rw [c45, starts_S])
theorem sg_is (l : List Nat) (n : Nat) : (if decide (l.head? = some 45) = true then -((n : Nat) : Int) else (n : Nat)) = sgI l n := by
  unfold sgI
  by_cases h : l.head? = some 45
  · rw [if_pos h, decide_eq_true h, if_pos rfl]
  · rw [if_neg h, decide_eq_false h, if_neg (by decide)]
theorem ok_read_integer (D : Dn K mg "read_integer" s_read_integer ["text"]) (c__signed : C8.Cal P w K mg base 3 "_signed" (sp__signed K) []) (c_is_digits : C8.Cal P w K mg base 1 "is_digits" (sp_is_digits K) []) :
    C8.Cal P w K mg base 4 "read_integer" (sp_read_integer K) [] := by
  refine cal_of D sc_read_integer (fun vs H Q E h => ?_) (fun f cdv A outer s H vs Q E hr h => ?_)
  · obtain ⟨_, rfl, _⟩ := h
    rfl
  refine ⟨_, (pss_cons (ps_set (i := 1) sc_read_integer.nd rfl (.inl rfl) (pe_m1 PySem.F.slot_str_startswith PySem.F.type_str_startswith mt_startswith (pv 0) pe_str))
    (pss_cons (ps_set (i := 2) sc_read_integer.nd rfl (.inl rfl) (pe_ifExp (pt_val (pv 1)) (pe_slice C8.sl_txt (pv 0) (po_some pe_int) po_none) (pv 0)))
    (pss_cons (ps_if (pt_not (pt_val (C8.pe_c c_is_digits hr (by decide) (by rfl) (pa_cons (pv 2) pa_nil))))
      (pss_one (ps_ret pe_non))
      pss_nil)
    (pss_one (ps_ret (C8.pe_c c__signed hr (by decide) (by rfl) (pa_cons (pv 1) (pa_cons (pv 2) pa_nil)))))))), ?_⟩
  obtain ⟨l, rfl, hz, q⟩ := h
  have hm := noM_len l
  refine q_asg (ev_min (ev_var rfl)) fun H1 e1 => ?_
  refine q_asg (v := .str (SX.S (noM l))) (ev_if (et_B (ev_var rfl)) (fun hc => ?_) fun hc => ?_) fun H2 e2 => ?_
  · unfold noM
    rw [if_pos (of_decide_eq_true hc)]
    exact ev_slF (i := 1) (ev_var rfl) ev_c (fun _ _ _ q => q) (by omega)
  · unfold noM
    rw [if_neg (of_decide_eq_false hc)]
    exact ev_var rfl
  refine q_when (et_not (et_B (ec_digs (ev_var rfl)))) (fun hc H3 e3 => s_ret (v := rdI l) (ev_is ev_c ?_) fun H4 e4 => q _ (((e1.trans e2).trans e3).trans e4)) fun hc H3 e3 => ?_
  · unfold rdI
    rw [if_neg (by intro e; rw [e] at hc; exact nomatch hc)]
  · have hd : digs (noM l) = true := by
      cases h : digs (noM l) with
      | true => rfl
      | false => rw [h] at hc; exact nomatch hc
    refine s_ret (v := rdI l) (ev_is (ec_sgn (ev_var rfl) (ev_var rfl) (digs_all hd) (by omega)) ?_) fun H4 e4 => q _ (((e1.trans e2).trans e3).trans e4)
    unfold rdI
    rw [if_pos hd, sg_is]
theorem digs_pad {p q : List Nat} (h : digs p = true) (hq : q.all isD = true) : (p ++ pad4 q).all isD = true := by
  unfold pad4
  rw [List.all_append, List.all_append, digs_all h, hq, Bool.true_and, Bool.true_and, List.all_eq_true]
  intro c hc
  rw [(List.mem_replicate.mp hc).2]
  rfl
theorem pt3_dot (l : List Nat) : (pt3 l).2.1 = [] → (pt3 l).2.2 = [] := by
  unfold pt3
  cases TL.par [46] [] l with
  | none => intro _; rfl
  | some p => intro h; exact nomatch h
theorem ok_read_decimal (D : Dn K mg "read_decimal" s_read_decimal ["text"]) (c__signed : C8.Cal P w K mg base 3 "_signed" (sp__signed K) []) (c_is_digits : C8.Cal P w K mg base 1 "is_digits" (sp_is_digits K) []) (z_len : mg "len" = none) :
    C8.Cal P w K mg base 4 "read_decimal" (sp_read_decimal K) [] := by
  refine cal_of D sc_read_decimal (fun vs H Q E h => ?_) (fun f cdv A outer s H vs Q E hr h => ?_)
  · obtain ⟨_, rfl, _⟩ := h
    rfl
  refine ⟨_, (pss_cons (ps_set (i := 1) sc_read_decimal.nd rfl (.inl rfl) (pe_m1 PySem.F.slot_str_startswith PySem.F.type_str_startswith mt_startswith (pv 0) pe_str))
    (pss_cons (ps_set (i := 2) sc_read_decimal.nd rfl (.inl rfl) (pe_ifExp (pt_val (pv 1)) (pe_slice C8.sl_txt (pv 0) (po_some pe_int) po_none) (pv 0)))
    (pss_cons (ps_asg (pe_partition (pv 2) pe_str) (pg_tup rfl (pgs_cons (pg_name (i := 3) sc_read_decimal.nd rfl (.inl rfl)) (pgs_cons (pg_name (i := 4) sc_read_decimal.nd rfl (.inl rfl)) (pgs_cons (pg_name (i := 5) sc_read_decimal.nd rfl (.inl rfl)) pgs_nil)))))
    (pss_cons (ps_if (pt_not (pt_val (C8.pe_c c_is_digits hr (by decide) (by rfl) (pa_cons (pv 3) pa_nil))))
      (pss_one (ps_ret pe_non))
      pss_nil)
    (pss_cons (ps_if (PW.pt (pw_and (pt_cmpR op_ne (pv 4) pe_str (nomark _)) (pw_and1 (pt_not (PW.pt (pw_and (pt_val (C8.pe_c c_is_digits hr (by decide) (by rfl) (pa_cons (pv 5) pa_nil))) (pw_and1 (pt_cmpR op_le (pe_callB call_len_str (by rfl) z_len PySem.boot_len (pa_cons (pv 5) pa_nil)) pe_int (nomark _)))))))))
      (pss_one (ps_ret pe_non))
      pss_nil)
    (pss_one (ps_ret (C8.pe_c c__signed hr (by decide) (by rfl) (pa_cons (pv 1) (pa_cons (pe_op op_add_str (pv 3) (pe_bm PySem.F.plainAttrs_str PySem.F.slot_str_ljust PySem.F.type_str_ljust mt_ljustF (pv 5) (pa_cons pe_int (pa_cons pe_str pa_nil)))) pa_nil)))))))))), ?_⟩
  obtain ⟨l, rfl, hz, q⟩ := h
  have hm := noM_len l
  obtain ⟨hp1, hp2⟩ := pt3_len (noM l)
  refine q_asg (ev_min (ev_var rfl)) fun H1 e1 => ?_
  refine q_asg (v := .str (SX.S (noM l))) (ev_if (et_B (ev_var rfl)) (fun hc => ?_) fun hc => ?_) fun H2 e2 => ?_
  · unfold noM
    rw [if_pos (of_decide_eq_true hc)]
    exact ev_slF (i := 1) (ev_var rfl) ev_c (fun _ _ _ q => q) (by omega)
  · unfold noM
    rw [if_neg (of_decide_eq_false hc)]
    exact ev_var rfl
  refine q_asgG (xs := [.str (SX.S (pt3 (noM l)).1), .str (SX.S (pt3 (noM l)).2.1), .str (SX.S (pt3 (noM l)).2.2)]) ?_ fun pp H3 hpp e3 h3 => gt3 (st_of h3) ?_
  · have e := part_S (noM l)
    have := eu_part (σ := [some (.str (SX.S l)), some (.bl (decide (l.head? = some 45))), some (.str (SX.S (noM l))), none, none, none]) (H := H2) (ta := tVar 2) (tb := tC (.str (PySem.Str.ofString "."))) (a := SX.S (noM l)) (b := PySem.Str.ofString ".") (ev_var rfl) ev_c (by decide +kernel) (by rw [SX.S_len]; omega)
    rw [c46, e] at this
    rw [← c46] at this
    exact this
  unfold rdD at q
  have hdot := pt3_dot (noM l)
  generalize (pt3 (noM l)).1 = w at *
  generalize (pt3 (noM l)).2.1 = d at *
  generalize (pt3 (noM l)).2.2 = p at *
  have x3 := (e1.trans e2).trans e3
  refine q_when (et_not (et_B (ec_digs (ev_var rfl)))) (fun hc H4 e4 => s_ret (v := .non) ev_c fun H5 e5 => ?_) fun hc H4 e4 => ?_
  · have q2 := q _ ((x3.trans e4).trans e5)
    rw [if_neg (by intro e; rw [e] at hc; exact nomatch hc)] at q2
    exact q2
  have hw : digs w = true := by
    cases h : digs w with
    | true => rfl
    | false => rw [h] at hc; exact nomatch hc
  rw [if_pos hw] at q
  have x4 := x3.trans e4
  refine q_when (b := (!decide (V.str (SX.S d) = V.str (PySem.Str.ofString ""))) && !(digs p && decide ((p.length : Int) ≤ 4))) (et_and (et_test (ev_op (ev_var rfl) ev_c (rv_ne rfl))) fun _ => et_not (et_and (et_B (ec_digs (ev_var rfl))) fun _ => et_test (ev_op (ev_lenX (ev_var rfl) (by omega)) ev_c rv_I0))) (fun hc H5 e5 => s_ret (v := .non) ev_c fun H6 e6 => ?_) fun hc H5 e5 => ?_
  · have q2 := q _ ((x4.trans e5).trans e6)
    rw [if_pos] at q2
    · exact q2
    · rw [c00, Bool.and_eq_true, Bool.not_eq_true', decide_eq_false_iff_not, Bool.not_eq_true', Bool.and_eq_false_iff, decide_eq_false_iff_not] at hc
      refine ⟨fun e => hc.1 (by rw [e]), fun h => ?_⟩
      rcases hc.2 with h2 | h2
      · rw [h.1] at h2; exact nomatch h2
      · exact h2 (by omega)
  · have hn : ¬ (d ≠ [] ∧ ¬ (digs p = true ∧ p.length ≤ 4)) := by
      rintro ⟨h1, h2⟩
      have a1 : decide (V.str (SX.S d) = V.str (PySem.Str.ofString "")) = false := decide_eq_false fun e => h1 (SX.S_inj ((V.str.inj e).trans c00))
      have a2 : (digs p && decide ((p.length : Int) ≤ 4)) = false := by
        rw [Bool.and_eq_false_iff, decide_eq_false_iff_not]
        by_cases h3 : digs p = true
        · exact .inr fun h4 => h2 ⟨h3, by omega⟩
        · exact .inl (by simpa using h3)
      rw [a1, a2] at hc
      exact nomatch hc
    have hpd : p.all isD = true := by
      by_cases e : d = []
      · rw [hdot e]; rfl
      · exact digs_all (Decidable.byContradiction fun h => hn ⟨e, fun h2 => h h2.1⟩)
    rw [if_neg hn] at q
    have hpl : (pad4 p).length ≤ 204 := by unfold pad4; rw [List.length_append, List.length_replicate]; omega
    refine s_ret (ec_sgn (l := w ++ pad4 p) (ev_var rfl) (ev_is (ev_cat (b := SX.S (pad4 p)) (ev_var rfl) (ev_is (ev_bmS (ev_var rfl) (ea_cons ev_c (ea_cons ev_c ea_nil)) fun H1 Q q => ⟨_, PySem.Str.ofString "0", 4, rfl, rfl, by decide, by decide +kernel, q H1 (Ex.refl H1)⟩) (by rw [c48, ljust_S])) (by rw [SX.S_len, SX.S_len]; omega)) (by rw [SX.S_cat])) (digs_pad hw hpd) (by rw [List.length_append]; omega)) fun H6 e6 => ?_
    rw [sg_is]
    exact q _ ((x4.trans e5).trans e6)
theorem ev_strI {σ : L2.St} {H : Hp} {ta : TE} {n : Nat} (h : Ev ta σ H (.int (n : Int))) (hn : n < 10 ^ 30) : Ev (tCB (fun xs H Q => ∃ i, xs = [.int i] ∧ i.natAbs.log2 < 1920 ∧ Q (.str (PySem.Str.ofString (toString i))) H) (tCons ta tNil)) σ H (.str (SX.S (TL.numL n))) := fun H1 e Q q =>
  h H1 e _ fun H2 e2 => ⟨_, rfl, by
    have h1 : Nat.log2 n < 1920 := by
      by_cases h0 : n = 0
      · rw [h0]; decide
      · exact Nat.lt_trans ((Nat.log2_lt h0).mpr (Nat.lt_of_lt_of_le hn (by decide : 10 ^ 30 ≤ 2 ^ 100))) (by decide)
    exact h1, by rw [SX.num_S]; exact q H2 e2⟩
theorem js_str {t : TE} {ts : List TE} {acc y : Str} {σ : L2.St} {H : Hp} {Q : Str → Hp → Prop} (h : Ev t σ H (.str y)) (hz : (acc ++ y).length ≤ 100000) (k : ∀ H1, Ex H H1 → tJs ts (acc ++ y) σ H1 Q) : tJs (t :: ts) acc σ H Q := h H (Ex.refl H) _ fun H1 e1 => ⟨y, rfl, sz_of hz, k H1 e1⟩
theorem fm_str {te : TE} {y : Str} {σ : L2.St} {H : Hp} (h : Ev te σ H (.str y)) (hz : y.length ≤ 100000) : Ev (tFmt te) σ H (.str y) := fun H1 e Q q => h H1 e _ fun H2 e2 => .inl ⟨y, rfl, sz_of hz, q H2 e2⟩
theorem fm_int {te : TE} {n : Nat} {σ : L2.St} {H : Hp} (h : Ev te σ H (.int (n : Int))) (hn : n < 10 ^ 30) : Ev (tFmt te) σ H (.str (SX.S (TL.numL n))) := fun H1 e Q q => h H1 e _ fun H2 e2 => .inr ⟨_, rfl, by
    have h1 : Nat.log2 n < 1920 := by
      by_cases h0 : n = 0
      · rw [h0]; decide
      · exact Nat.lt_trans ((Nat.log2_lt h0).mpr (Nat.lt_of_lt_of_le hn (by decide : 10 ^ 30 ≤ 2 ^ 100))) (by decide)
    exact h1, by rw [SX.num_S]; exact q H2 e2⟩
theorem noE_len (l : List Nat) : (noE l).length ≤ l.length := by
  unfold noE
  rw [List.length_reverse]
  have := noZ_len l.reverse
  rw [List.length_reverse] at this
  exact this
theorem ok_decimal_text (D : Dn K mg "decimal_text" s_decimal_text ["number"]) (z_abs : mg "abs" = none) (z_divmod : mg "divmod" = none) (z_str : mg "str" = none) (g__SCALE : ∃ u, mg "_SCALE" = some u ∧ RelV (.int (10000)) u) :
    C8.Cal P w K mg base 1 "decimal_text" (sp_decimal_text K) [] := by
  refine cal_of D sc_decimal_text (fun vs H Q E h => ?_) (fun f cdv A outer s H vs Q E hr h => ?_)
  · obtain ⟨_, rfl, _⟩ := h
    rfl
  refine ⟨_, (pss_cons (ps_asg (pe_callB call_divmod (by rfl) z_divmod (by decide +kernel) (pa_cons (pe_callB call_abs (by rfl) z_abs (by decide +kernel) (pa_cons (pv 0) pa_nil)) (pa_cons (C8.pe_gc rfl g__SCALE) pa_nil))) (pg_tup rfl (pgs_cons (pg_name (i := 1) sc_decimal_text.nd rfl (.inl rfl)) (pgs_cons (pg_name (i := 2) sc_decimal_text.nd rfl (.inl rfl)) pgs_nil))))
    (pss_cons (ps_set (i := 3) sc_decimal_text.nd rfl (.inl rfl) (pe_ifExp (pt_cmpR op_lt (pv 0) pe_int (nomark _)) pe_str pe_str))
    (pss_cons (ps_if (pt_cmpR op_eq (pv 2) pe_int (nomark _))
      (pss_one (ps_ret (pe_joined (PJ.cons (pe_fmt (pv 3)) (PJ.cons (pe_fmt (pv 1)) PJ.nil)))))
      pss_nil)
    (pss_cons (ps_set (i := 4) sc_decimal_text.nd rfl (.inl rfl) (pe_m1 PySem.F.slot_str_rstrip PySem.F.type_str_rstrip mt_rstripChars (pe_bm PySem.F.plainAttrs_str PySem.F.slot_str_zfill PySem.F.type_str_zfill mt_zfill (pe_callTy call_str_int (by rfl) z_str (by decide +kernel) (pa_cons (pv 2) pa_nil)) (pa_cons pe_int pa_nil)) pe_str))
    (pss_one (ps_ret (pe_joined (PJ.cons (pe_fmt (pv 3)) (PJ.cons (pe_fmt (pv 1)) (PJ.cons pe_str (PJ.cons (pe_fmt (pv 4)) PJ.nil))))))))))), ?_⟩
  obtain ⟨n, rfl, hn, q⟩ := h
  have ha : ab n = (n.natAbs : Int) := by unfold ab; split <;> omega
  have hl := TL.numL_len (n := n.natAbs / 10000) (k := 30) (by decide) (by omega)
  refine q_asgG (xs := [.int ((n.natAbs / 10000 : Nat) : Int), .int ((n.natAbs % 10000 : Nat) : Int)]) ?_ fun pp H1 hpp e1 h1 => gt2 (st_of h1) ?_
  · have := eu_divmod (σ := [some (.int n), none, none, none, none]) (H := H) (ta := _) (tb := tC (.int 10000)) (i := (n.natAbs : Int)) (j := 10000) (ev_is (ev_abs (ta := tVar 0) (i := n) (ev_var rfl)) (by rw [← ha]; rfl)) ev_c ⟨by decide, by decide⟩
    rw [show ((n.natAbs : Int) / 10000) = ((n.natAbs / 10000 : Nat) : Int) by omega, show ((n.natAbs : Int) % 10000) = ((n.natAbs % 10000 : Nat) : Int) by omega] at this
    exact this
  have hr : n.natAbs % 10000 < 10000 := Nat.mod_lt _ (by decide)
  have hq : n.natAbs / 10000 < 10 ^ 30 := by omega
  unfold dtx at q
  generalize n.natAbs / 10000 = wh at *
  generalize n.natAbs % 10000 = r at *
  refine q_asg (v := .str (SX.S (if n < 0 then [45] else []))) (ev_if (b := decide (n < 0)) (by walk_at "et") (fun hc => ev_is ev_c ?_) fun hc => ev_is ev_c ?_) fun H2 e2 => ?_
  · rw [if_pos (of_decide_eq_true hc), c45]
  · rw [if_neg (of_decide_eq_false hc), c00]
  have hsl : (if n < 0 then [45] else [] : List Nat).length ≤ 1 := by split <;> decide
  generalize (if n < 0 then [45] else [] : List Nat) = sg at *
  have x2 := e1.trans e2
  have em : ∀ x : Str, Str.empty ++ x = x := fun x => TL.ext_tl (by rw [TL.tl_append]; rfl)
  refine q_when (b := decide (V.int (r : Int) = V.int ((0 : Nat) : Int))) (et_test (ev_op (ev_var rfl) ev_c (rv_eq rfl))) (fun hc H3 e3 => ?_) fun hc H3 e3 => ?_
  · have h0 : r = 0 := by have := V.int.inj (of_decide_eq_true hc); omega
    refine s_ret (v := .str (SX.S (sg ++ TL.numL wh))) (fun H4 e4 Q k => ?_) fun H4 e4 => ?_
    · refine js_str (fm_str (ev_var rfl) (by rw [SX.S_len]; omega)) (by rw [em, SX.S_len]; omega) fun H5 e5 => js_str (fm_int (ev_var rfl) hq) (by rw [em, SX.S_cat, SX.S_len, List.length_append]; omega) fun H6 e6 => ?_
      rw [em, SX.S_cat]
      exact k H6 (e5.trans e6)
    · have q2 := q _ ((x2.trans e3).trans e4)
      rw [if_pos h0, List.append_nil] at q2
      exact q2
  · have h0 : ¬ r = 0 := fun e => of_decide_eq_false hc (by rw [e])
    have hnl := noE_len (four r)
    have hfl : (four r).length = 4 := rfl
    refine q_asg (v := .str (SX.S (noE (four r)))) (ev_is (ev_m1 (ev_is (ev_bmS (ev_strI (ev_var rfl) (by omega)) (ea_cons ev_c ea_nil) fun H1 Q q => ⟨_, 4, rfl, rfl, by decide, q H1 (Ex.refl H1)⟩) (by rw [zfill_S hr])) ev_c fun H1 Q q => ⟨_, PySem.Str.ofString "0", rfl, rfl, by rw [SX.S_len]; exact sz_of (by omega), q H1 (Ex.refl H1)⟩) (by rw [c48, rstrip_S])) fun H4 e4 => ?_
    refine s_ret (v := .str (SX.S (sg ++ (TL.numL wh ++ 46 :: noE (four r))))) (fun H5 e5 Q k => ?_) fun H5 e5 => ?_
    · refine js_str (fm_str (ev_var rfl) (by rw [SX.S_len]; omega)) (by rw [em, SX.S_len]; omega) fun H6 e6 => js_str (fm_int (ev_var rfl) hq) (by rw [em, SX.S_cat, SX.S_len, List.length_append]; omega) fun H7 e7 => js_str (ev_is (v := .str (PySem.Str.ofString ".")) ev_c (by rw [c46])) (by rw [em, SX.S_cat, SX.S_cat, SX.S_len, List.length_append, List.length_append]; show _ + 1 ≤ _; omega) fun H8 e8 => js_str (fm_str (ev_var rfl) (by rw [SX.S_len]; omega)) (by rw [em, SX.S_cat, SX.S_cat, SX.S_cat, SX.S_len, List.length_append, List.length_append, List.length_append]; show _ + 1 + _ ≤ _; omega) fun H9 e9 => ?_
      rw [em, SX.S_cat, SX.S_cat, SX.S_cat, show sg ++ TL.numL wh ++ [46] ++ noE (four r) = sg ++ (TL.numL wh ++ 46 :: noE (four r)) by simp]
      exact k H9 (((e6.trans e7).trans e8).trans e9)
    · have q2 := q _ (((x2.trans e3).trans e4).trans e5)
      rw [if_neg h0] at q2
      exact q2
end

section
variable {σ : L2.St} {H : Hp} {D : Ends} {tz : TS} {te : TE}
theorem q_forX {tu : TS} {j : Nat} {w : List Nat} (h : Ev te σ H (.str (SX.S w))) (Pv : Nat → L2.St → Hp → Prop) (h0 : ∀ H1, Ex H H1 → Pv 0 σ H1)
    (hs : ∀ (i : Nat) (c : Nat) σ' H', w[i]? = some c → Pv i σ' H' → tu { nx := Pv (i + 1), rt := D.rt, bk := tz D, ct := Pv (i + 1) } (σ'.set j (some (.str ⟨#[c]⟩))) H')
    (hd : ∀ σ' H', Pv w.length σ' H' → tz D σ' H') : tSeq (tFor (iStr te) (gName j) tu) tz D σ H := by
  have ec : ∀ i, (SX.S w).cps[i]? = w[i]? := fun i => List.getElem?_toArray
  have es : (SX.S w).cps.size = w.length := List.size_toArray
  refine h H (Ex.refl H) _ fun H1 e1 => ⟨SX.S w, rfl, fun i m σ' H' => Pv i σ' H' ∧ i ≤ w.length ∧ w.length - i ≤ m, ⟨_, h0 H1 e1, Nat.zero_le _, Nat.le_refl _⟩, fun i m σ' H' p => ?_⟩
  obtain ⟨p, hi, hm⟩ := p
  by_cases hlt : i < w.length
  · refine .inr ⟨by show i < (SX.S w).cps.size; omega, fun σ2 H2 => Pv (i + 1) σ2 H2, fun σ2 H2 q => ⟨m - 1, by omega, q, hlt, by omega⟩, ?_⟩
    rintro x H2 ⟨rfl, c, hc, rfl⟩
    rw [ec] at hc
    exact hs i c σ' _ hc p
  · refine .inl ⟨by show (SX.S w).cps.size ≤ i; omega, ?_⟩
    rw [show i = w.length by omega] at p
    exact hd _ _ p
theorem q_callG {sp : Sp} {dvs vs : List V} {E : XK} {tr : TA} {g : TG} (h : EvA tr σ H vs) (k : ∀ H1, Ex H H1 → sp (vs ++ dvs) H1 (fun x H2 => g x σ H2 (tz D)) E) : tSeq (tAsg (tCall sp dvs E tr) g) tz D σ H := h H (Ex.refl H) _ fun H1 e1 => k H1 e1
end
/-! ### the law's digits -/
theorem pre1 {c : Nat} {l : List Nat} {i : Nat} : TL.pre [c] (l.drop i) = true ↔ l[i]? = some c := by
  by_cases h : i < l.length
  · rw [List.drop_eq_getElem_cons h, List.getElem?_eq_getElem h]
    constructor
    · intro e
      by_cases e2 : l[i] = c
      · rw [e2]
      · rw [TL.pre_of_head [] _ e2] at e
        exact nomatch e
    · intro e
      rw [Option.some.inj e]
      exact TL.pre_self [c] _
  · rw [List.drop_eq_nil_of_le (by omega), List.getElem?_eq_none (by omega), TL.pre_nil (List.cons_ne_nil _ _)]
    simp
theorem find1 (l : List Nat) (c : Nat) : (Txt.find (SX.S l) (SX.S [c]) = -1 ∧ ∀ i : Nat, ¬ l[i]? = some c) ∨ ∃ i : Nat, Txt.find (SX.S l) (SX.S [c]) = (i : Int) ∧ l[i]? = some c ∧ ∀ k : Nat, k < i → ¬ l[k]? = some c := by
  have ha : ∀ i, StrLaws.At (SX.S l) (SX.S [c]) (SX.S l).length i ↔ l[i]? = some c := fun i => by
    rw [TL.at_iff (by rw [tl_S]; exact List.cons_ne_nil _ _), tl_S, tl_S, pre1]
  rcases StrLaws.occ_head (SX.S l) (SX.S [c]) 1 (Nat.le_refl 1) with ⟨h1, h2⟩ | ⟨i, r, h1, h2, h3⟩
  · refine .inl ⟨?_, fun i h => h2 i ((ha i).mpr h)⟩
    unfold Txt.find
    rw [h1]
  · refine .inr ⟨i, ?_, (ha i).mp h2, fun k hk h => h3 k hk ((ha k).mpr h)⟩
    unfold Txt.find
    rw [h1]
def tenL : List Nat := [48, 49, 50, 51, 52, 53, 54, 55, 56, 57]
theorem cTen : PySem.Str.ofString "0123456789" = SX.S tenL := by decide +kernel
theorem ten_at {i : Nat} (h : i < 10) : tenL[i]? = some (48 + i) := by
  have : ∀ i : Fin 10, tenL[i.1]? = some (48 + i.1) := by decide
  exact this ⟨i, h⟩
theorem ten_in {i c : Nat} (h : tenL[i]? = some c) : c = 48 + i ∧ i < 10 := by
  have hi : i < 10 := (List.getElem?_eq_some_iff.mp h).1
  rw [ten_at hi] at h
  exact ⟨(Option.some.inj h).symm, hi⟩
theorem find_ten (c : Nat) : (isD c = false ∧ Txt.find (SX.S tenL) (SX.S [c]) = -1) ∨ (isD c = true ∧ Txt.find (SX.S tenL) (SX.S [c]) = ((c - 48 : Nat) : Int)) := by
  rcases find1 tenL c with ⟨h1, h2⟩ | ⟨i, h1, h2, _⟩
  · refine .inl ⟨?_, h1⟩
    cases h : isD c with
    | false => rfl
    | true =>
      unfold isD at h
      rw [Bool.and_eq_true, decide_eq_true_eq, decide_eq_true_eq] at h
      exact absurd (by rw [ten_at (by omega), show 48 + (c - 48) = c by omega]) (h2 (c - 48))
  · obtain ⟨e, hi⟩ := ten_in h2
    refine .inr ⟨?_, by rw [h1, show c - 48 = i by omega]⟩
    unfold isD
    rw [decide_eq_true (by omega), decide_eq_true (by omega)]
    rfl
def lval (l : List Nat) : V := if l.all isD = true then .int ((dval l : Nat) : Int) else .non
inductive PlI : V → Prop where
  | non : PlI .non
  | int (i : Int) : PlI (.int i)
def isI : V → Bool
  | .int _ => true
  | _ => false
theorem lim_pl (n : Int) : PlI (limV n) := by
  unfold limV
  split
  · exact .int _
  · exact .non
def sp__law_is_integer (K : PySem.W.Frag) : Sp := fun vs H Q _ => ∃ v : V, vs = [v] ∧ PlI v ∧ ∀ H', Ex H H' → Q (.bl (isI v)) H'
def sp__law_told (K : PySem.W.Frag) : Sp := fun vs H Q _ => ∃ v : V, vs = [v, v] ∧ PlI v ∧ ∀ H', Ex H H' → Q (.bl true) H'
def sp__law_number (K : PySem.W.Frag) : Sp := fun vs H Q _ => ∃ n : Int, vs = [.int n] ∧ ∀ H' (m : Int), Ex H H' → m.natAbs < 10 ^ 18 → Q (.int m) H'
def ldS (n : Int) : Nat → List Nat × Int
  | 0 => ([], n)
  | k + 1 => ((ldS n k).1 ++ [48 + ((ldS n k).2 % 10).toNat], (ldS n k).2 / 10 + 3 * (k : Int))
theorem ldS_len (n : Int) : ∀ k, (ldS n k).1.length = k
  | 0 => rfl
  | k + 1 => by
    show ((ldS n k).1 ++ [_]).length = k + 1
    rw [List.length_append, ldS_len n k]
    rfl
def sp__law_digits (K : PySem.W.Frag) : Sp := fun vs H Q _ => ∃ (n : Int) (z : Nat), vs = [.int n, .int (z : Int)] ∧ z ≤ 100 ∧ ∀ H', Ex H H' → Q (.str (SX.S (ldS n z).1)) H'
def sp__law_plain (K : PySem.W.Frag) : Sp := fun vs H Q _ => ∃ n : Nat, vs = [.int (n : Int)] ∧ n < 10 ^ 30 ∧ ∀ H', Ex H H' → Q (.str (SX.S (TL.numL n))) H'
def sp__law_value (K : PySem.W.Frag) : Sp := fun vs H Q _ => ∃ l : List Nat, vs = [.str (SX.S l)] ∧ l.length ≤ 300 ∧ ∀ H', Ex H H' → Q (lval l) H'
section
variable {σ : L2.St} {H : Hp} {ta tb : TE} {K : PySem.W.Frag}
theorem ev_ixN {xs : List V} {i : Int} {v : V} (ha : EvL ta σ H xs) (hb : Ev tb σ H (.int i)) (hi : atI xs i = some v) : Ev (tOp (rIxL K) ta tb) σ H v := fun H1 e Q q =>
  ha H1 e _ fun p H2 hp e2 h2 => hb H2 (e.trans e2) _ fun H3 e3 => rv_ixL (sq_of (e3 _ _ h2)) hi H3 (Ex.refl H3) Q fun H4 e4 => q H4 ((e2.trans e3).trans e4)
theorem ev_ten {i : Nat} (h : i < 10) (hb : Ev tb σ H (.int (i : Int))) : Ev (tOp rIxS (tC (.str (PySem.Str.ofString "0123456789"))) tb) σ H (.str (SX.S [48 + i])) :=
  ev_op (x := .str (SX.S tenL)) (ev_is ev_c (by rw [cTen])) hb (rv_ixS (by decide) (atI_nat (ten_at h)))
end
section
variable {P : Program} {w : World} {K : PySem.W.Frag} {mg : Str → Option Value} {base : Heap}
theorem ok__law_is_integer (D : Dn K mg "_law_is_integer" s__law_is_integer ["value"]) (z_bool : mg "bool" = none) (z_int : mg "int" = none) (z_isinstance : mg "isinstance" = none) :
    C8.Cal P w K mg base 1 "_law_is_integer" (sp__law_is_integer K) [] := by
  refine cal_of D sc__law_is_integer (fun vs H Q E h => ?_) (fun f cdv A outer s H vs Q E hr h => ?_)
  · obtain ⟨_, rfl, _⟩ := h
    rfl
  refine ⟨_, (pss_one (ps_ret (pe_and (pe_callB call_isi (by rfl) z_isinstance (by decide +kernel) (pa_cons (pv 0) (pa_cons (pe_bltn (v := .ty "int") (u := .type "int") rfl z_int (by decide +kernel) rfl) pa_nil))) (pe_one (pe_not (pe_callB call_isi (by rfl) z_isinstance (by decide +kernel) (pa_cons (pv 0) (pa_cons (pe_bltn (v := .ty "bool") (u := .type "bool") rfl z_bool (by decide +kernel) rfl) pa_nil)))))))), ?_⟩
  obtain ⟨v, rfl, hv, q⟩ := h
  refine s_ret (v := .bl (isI v)) ?_ fun H1 e1 => q _ e1
  cases hv with
  | non => exact ev_is (ev_andV (a := false) (b := true) (ev_isi (ev_var rfl) (fun H1 => tx_non H1) (by decide +kernel)) fun z => nomatch z) rfl
  | int i => exact ev_is (ev_andV (a := true) (b := !false) (ev_isi (ev_var rfl) (fun H1 => tx_int i H1) (by decide +kernel)) fun _ => ev_notV (ev_isi (ev_var rfl) (fun H1 => tx_int i H1) (by decide +kernel))) rfl
theorem ec_isI {σ : L2.St} {H : Hp} {ta : TE} {E : XK} {v : V} (ha : Ev ta σ H v) (hv : PlI v) : Ev (tCall (sp__law_is_integer K) [] E (tCons ta tNil)) σ H (.bl (isI v)) := ev_call (ea_cons ha ea_nil) fun H1 e Q q E => ⟨v, rfl, hv, q⟩
theorem ok__law_told (D : Dn K mg "_law_told" s__law_told ["told", "due"]) (c__law_is_integer : C8.Cal P w K mg base 1 "_law_is_integer" (sp__law_is_integer K) []) :
    C8.Cal P w K mg base 2 "_law_told" (sp__law_told K) [] := by
  refine cal_of D sc__law_told (fun vs H Q E h => ?_) (fun f cdv A outer s H vs Q E hr h => ?_)
  · obtain ⟨_, rfl, _⟩ := h
    rfl
  refine ⟨_, (pss_cons (ps_if (pt_cmpR op_isN (pv 1) pe_non (nomark _))
      (pss_one (ps_ret (pe_cmpR op_isN (pv 0) pe_non (nomark _))))
      pss_nil)
    (pss_one (ps_ret (pe_and (C8.pe_c c__law_is_integer hr (by decide) (by rfl) (pa_cons (pv 0) pa_nil)) (pe_one (pe_cmpR op_eq (pv 0) (pv 1) (nomark _))))))), ?_⟩
  obtain ⟨v, rfl, hv, q⟩ := h
  refine q_when (b := decide (v = .non)) (et_test (ev_op (ev_var rfl) ev_c rv_isN)) (fun hc H1 e1 => s_ret (v := .bl true) (ev_is (ev_op (ev_var rfl) ev_c rv_isN) (by rw [hc])) fun H2 e2 => q _ (e1.trans e2)) fun hc H1 e1 => s_ret (v := .bl true) ?_ fun H2 e2 => q _ (e1.trans e2)
  cases hv with
  | non => exact absurd rfl (of_decide_eq_false hc)
  | int i => exact ev_is (ev_andV (ec_isI (ev_var rfl) (.int i)) fun _ => ev_op (ev_var rfl) (ev_var rfl) (rv_eq rfl)) (by rw [decide_eq_true rfl]; rfl)
theorem ok__law_number (D : Dn K mg "_law_number" s__law_number ["number"]) (z_int : mg "int" = none) :
    C8.Cal P w K mg base 1 "_law_number" (sp__law_number K) [] := by
  refine cal_of D sc__law_number (fun vs H Q E h => ?_) (fun f cdv A outer s H vs Q E hr h => ?_)
  · obtain ⟨_, rfl, _⟩ := h
    rfl
  refine ⟨_, (pss_cons (ps_set (i := 1) sc__law_number.nd rfl (.inl rfl) (pe_op op_mod (pe_callTy call_int1 (by rfl) z_int (by decide +kernel) (pa_cons (pv 0) pa_nil)) pe_int))
    (pss_cons (ps_set (i := 2) sc__law_number.nd rfl (.inl rfl) (pe_op op_fdiv (pv 0) pe_int))
    (pss_cons (ps_if (pt_cmpR op_eq (pv 1) pe_int (nomark _))
      (pss_one (ps_ret (pe_op op_sub (pe_op op_mod (pe_callTy call_int1 (by rfl) z_int (by decide +kernel) (pa_cons (pv 2) pa_nil)) pe_int) pe_int)))
      pss_nil)
    (pss_cons (ps_if (pt_cmpR op_eq (pv 1) pe_int (nomark _))
      (pss_one (ps_ret (pe_op op_add (pe_op op_sub (pe_op op_mod (pe_callTy call_int1 (by rfl) z_int (by decide +kernel) (pa_cons (pv 2) pa_nil)) pe_int) pe_int) (pe_ix ix_list (pe_lst (pa_cons pe_int (pa_cons (pe_un un_neg pe_int) pa_nil))) (pe_op op_mod (pe_op op_fdiv (pe_callTy call_int1 (by rfl) z_int (by decide +kernel) (pa_cons (pv 2) pa_nil)) pe_int) pe_int) (fun _ _ => rfl)))))
      pss_nil)
    (pss_cons (ps_if (pt_cmpR op_eq (pv 1) pe_int (nomark _))
      (pss_one (ps_ret (pe_op op_sub (pe_op op_mod (pe_callTy call_int1 (by rfl) z_int (by decide +kernel) (pa_cons (pv 2) pa_nil)) pe_int) pe_int)))
      pss_nil)
    (pss_one (ps_ret (pe_op op_sub (pe_op op_mod (pe_callTy call_int1 (by rfl) z_int (by decide +kernel) (pa_cons (pv 2) pa_nil)) pe_int) pe_int)))))))), ?_⟩
  obtain ⟨n, rfl, q⟩ := h
  refine q_asg (v := .int (n % 5)) (by walk_at "ev") fun H1 e1 => ?_
  refine q_asg (v := .int (n / 5)) (by walk_at "ev") fun H2 e2 => ?_
  have x2 := e1.trans e2
  generalize n % 5 = c at *
  generalize n / 5 = m at *
  refine q_when (b := decide (V.int c = V.int 0)) (by walk_at "et") (fun hb H3 e3 => s_ret (v := .int (m % 41 - 20)) (by walk_at "ev") fun H4 e4 => q _ _ ((x2.trans e3).trans e4) (by omega)) fun hb H3 e3 => ?_
  refine q_when (b := decide (V.int c = V.int 1)) (by walk_at "et") (fun hb H4 e4 => ?_) fun hb H4 e4 => ?_
  · have hm : m / 3 % 2 = 0 ∨ m / 3 % 2 = 1 := by omega
    have hx : ∃ g : Int, atI [V.int 1000000000000000, V.int (-1000000000000000)] (m / 3 % 2) = some (.int g) ∧ g.natAbs = 1000000000000000 := by
      rcases hm with h | h
      · exact ⟨1000000000000000, by rw [h]; rfl, rfl⟩
      · exact ⟨-1000000000000000, by rw [h]; rfl, rfl⟩
    obtain ⟨g, hg, hg2⟩ := hx
    exact s_ret (v := .int (m % 3 - 1 + g)) (ev_op (by walk_at "ev") (ev_ixN (el_lst (ea_cons ev_c (ea_cons (ev_un ev_c ru_neg) ea_nil)) (by show 2 ≤ 100000; decide)) (by walk_at "ev") hg) rv_I0) fun H5 e5 => q _ _ (((x2.trans e3).trans e4).trans e5) (by omega)
  refine q_when (b := decide (V.int c = V.int 2)) (by walk_at "et") (fun hb H5 e5 => s_ret (v := .int (m % 400001 - 200000)) (by walk_at "ev") fun H6 e6 => q _ _ ((((x2.trans e3).trans e4).trans e5).trans e6) (by omega)) fun hb H5 e5 => ?_
  exact s_ret (v := .int (m % 200000000000000001 - 100000000000000000)) (by walk_at "ev") fun H6 e6 => q _ _ ((((x2.trans e3).trans e4).trans e5).trans e6) (by omega)
theorem ok__law_digits (D : Dn K mg "_law_digits" s__law_digits ["number", "size"]) (z_int : mg "int" = none) (z_range : mg "range" = none) :
    C8.Cal P w K mg base 1 "_law_digits" (sp__law_digits K) [] := by
  refine cal_of D sc__law_digits (fun vs H Q E h => ?_) (fun f cdv A outer s H vs Q E hr h => ?_)
  · obtain ⟨_, _, rfl, _⟩ := h
    rfl
  refine ⟨_, (pss_cons (ps_set (i := 2) sc__law_digits.nd rfl (.inl rfl) pe_str)
    (pss_cons (ps_for PassesOwn.never rfl (pi_range1 rfl z_range (pa_cons (pv 1) pa_nil)) (pg_name (i := 3) sc__law_digits.nd rfl (.inl rfl))
      (pss_cons (ps_set (i := 2) sc__law_digits.nd rfl (.inl rfl) (pe_op op_add_str (pv 2) (pe_ix ix_str pe_str (pe_op op_mod (pe_callTy call_int1 (by rfl) z_int (by decide +kernel) (pa_cons (pv 0) pa_nil)) pe_int) (fun _ _ => rfl))))
    (pss_one (ps_set (i := 0) sc__law_digits.nd rfl (.inl rfl) (pe_op op_add (pe_op op_fdiv (pv 0) pe_int) (pe_op op_mul pe_int (pv 3)))))))
    (pss_one (ps_ret (pv 2))))), ?_⟩
  obtain ⟨n, z, rfl, hz, q⟩ := h
  refine q_asg (v := .str (SX.S [])) (ev_is ev_c (by rw [c00])) fun H1 e1 => ?_
  refine q_forR1 (n := (z : Int)) (ea_cons (ev_var rfl) ea_nil) ⟨by omega, by omega⟩
    (fun i σ H' => ∃ (y3 : Option V), σ = [some (.int (ldS n i).2), some (.int (z : Int)), some (.str (SX.S (ldS n i).1)), y3] ∧ Ex H H')
    (fun H2 e2 => ⟨none, rfl, e1.trans e2⟩) (fun i σ' H' hi hw => ?_) (fun σ' H' hw => ?_)
  · obtain ⟨y3, rfl, x2⟩ := hw
    have hl := ldS_len n i
    have hs : ldS n (i + 1) = ((ldS n i).1 ++ [48 + ((ldS n i).2 % 10).toNat], (ldS n i).2 / 10 + 3 * (i : Int)) := rfl
    rw [hs]
    generalize (ldS n i).1 = l at *
    generalize (ldS n i).2 = m at *
    have h0 := Int.emod_nonneg m (show (10 : Int) ≠ 0 by decide)
    have h1 := Int.emod_lt_of_pos m (show (0 : Int) < 10 by decide)
    refine q_asg (v := .str (SX.S (l ++ [48 + (m % 10).toNat]))) (ev_is (ev_cat (ev_var rfl) (ev_ten (i := (m % 10).toNat) (by omega) (ev_is (v := .int (m % 10)) (by walk_at "ev") (by rw [Int.toNat_of_nonneg h0]))) (by rw [SX.S_len, SX.S_len]; show _ + 1 ≤ _; omega)) (by rw [SX.S_cat])) fun H3 e3 => ?_
    exact s_asg (v := .int (m / 10 + 3 * (i : Int))) (by walk_at "ev") fun H4 e4 => ⟨_, rfl, (x2.trans e3).trans e4⟩
  · obtain ⟨y3, rfl, x2⟩ := hw
    rw [Int.toNat_natCast]
    exact s_ret (ev_var rfl) fun H3 e3 => q _ (x2.trans e3)
theorem ok__law_plain (D : Dn K mg "_law_plain" s__law_plain ["number"]) (z_int : mg "int" = none) (z_range : mg "range" = none) :
    C8.Cal P w K mg base 1 "_law_plain" (sp__law_plain K) [] := by
  refine cal_of D sc__law_plain (fun vs H Q E h => ?_) (fun f cdv A outer s H vs Q E hr h => ?_)
  · obtain ⟨_, rfl, _⟩ := h
    rfl
  refine ⟨_, (pss_cons (ps_set (i := 1) sc__law_plain.nd rfl (.inl rfl) pe_str)
    (Evl.pss_cut (ps_for PassesOwn.never rfl (pi_range1 rfl z_range (pa_cons pe_int pa_nil)) (pg_name (i := 2) sc__law_plain.nd rfl (.inl rfl))
      (pss_cons (ps_set (i := 1) sc__law_plain.nd rfl (.inl rfl) (pe_op op_add_str (pe_ix ix_str pe_str (pe_op op_mod (pe_callTy call_int1 (by rfl) z_int (by decide +kernel) (pa_cons (pv 0) pa_nil)) pe_int) (fun _ _ => rfl)) (pv 1)))
    (pss_cons (ps_set (i := 0) sc__law_plain.nd rfl (.inl rfl) (pe_op op_fdiv (pv 0) pe_int))
    (pss_one (ps_if (pt_cmpR op_eq (pv 0) pe_int (nomark _))
      (pss_one ps_break)
      pss_nil)))))
    (pss_one (ps_ret (pv 1))))), ?_⟩
  obtain ⟨n, rfl, hn, q⟩ := h
  refine q_asg (v := .str (SX.S [])) (ev_is ev_c (by rw [c00])) fun H1 e1 => ?_
  refine q_cut (M := fun σ H' => ∃ y0 y2, σ = [y0, some (.str (SX.S (TL.numL n))), y2] ∧ Ex H H') ?_ ?_
  · refine s_forR1 (n := 1000) (ea_cons ev_c ea_nil) ⟨by decide, by decide⟩
      (fun i σ H' => ∃ (m : Nat) (t : List Nat) (y2 : Option V), σ = [some (.int (m : Int)), some (.str (SX.S t)), y2] ∧ Ex H H' ∧ TL.numL n = TL.numL m ++ t ∧ m < 10 ^ (30 - i) ∧ (i = 0 ∨ 0 < m) ∧ t.length ≤ i)
      (fun H2 e2 => ⟨n, [], none, rfl, e1.trans e2, by rw [List.append_nil], hn, .inl rfl, Nat.le_refl 0⟩) (fun i σ' H' hi hw => ?_) (fun σ' H' hw => ?_)
    · obtain ⟨m, t, y2, rfl, x2, he, hm, h0, ht⟩ := hw
      refine q_asg (v := .str (SX.S ([48 + m % 10] ++ t))) (ev_is (ev_cat (ev_ten (i := m % 10) (by omega) (ev_is (v := .int ((m : Int) % 10)) (by walk_at "ev") (by rw [Int.natCast_emod]; rfl))) (ev_var rfl) (by rw [SX.S_len, SX.S_len]; show 1 + _ ≤ _; omega)) (by rw [SX.S_cat])) fun H3 e3 => ?_
      refine q_asg (v := .int ((m / 10 : Nat) : Int)) (ev_is (v := .int ((m : Int) / 10)) (by walk_at "ev") (by rw [Int.natCast_ediv]; rfl)) fun H4 e4 => ?_
      have x4 := (x2.trans e3).trans e4
      refine s_when (b := decide (V.int ((m / 10 : Nat) : Int) = V.int ((0 : Nat) : Int))) (et_test (ev_op (ev_var rfl) ev_c (rv_eq rfl))) (fun hb H5 e5 => ?_) (fun hb H5 e5 => ?_)
      · have h1 : m / 10 = 0 := by have := V.int.inj (of_decide_eq_true hb); omega
        have e : TL.numL n = [48 + m % 10] ++ t := by rw [he, TL.numL_lt (show m < 10 by omega), show m % 10 = m by omega]
        refine ⟨some (.int ((m / 10 : Nat) : Int)), some (.int (i : Int)), ?_, x4.trans e5⟩
        rw [e]
        rfl
      · have h1 : ¬ m / 10 = 0 := fun e => of_decide_eq_false hb (by rw [e])
        refine ⟨m / 10, [48 + m % 10] ++ t, _, rfl, x4.trans e5, ?_, ?_, .inr (by omega), by show t.length + 1 ≤ _; omega⟩
        · rw [he, TL.numL_step (show 10 ≤ m by omega), List.append_assoc]
        · by_cases hi30 : i < 30
          · have : 10 ^ (30 - i) = 10 ^ (30 - (i + 1)) * 10 := by rw [← Nat.pow_succ]; congr 1; omega
            omega
          · rw [show 30 - i = 0 by omega] at hm
            simp at hm
            omega
    · obtain ⟨m, t, y2, rfl, x2, he, hm, h0, ht⟩ := hw
      exfalso
      have : (1000 : Int).toNat = 1000 := rfl
      rw [this] at hm h0
      simp at hm
      omega
  · intro σ' H' hm
    obtain ⟨y0, y2, rfl, x2⟩ := hm
    exact s_ret (ev_var rfl) fun H3 e3 => q _ (x2.trans e3)
theorem ok__law_value (D : Dn K mg "_law_value" s__law_value ["digits"]) :
    C8.Cal P w K mg base 1 "_law_value" (sp__law_value K) [] := by
  refine cal_of D sc__law_value (fun vs H Q E h => ?_) (fun f cdv A outer s H vs Q E hr h => ?_)
  · obtain ⟨_, rfl, _⟩ := h
    rfl
  refine ⟨_, (pss_cons (ps_set (i := 1) sc__law_value.nd rfl (.inl rfl) pe_int)
    (pss_cons (ps_for PassesOwn.never rfl (pi_str (pv 0)) (pg_name (i := 2) sc__law_value.nd rfl (.inl rfl))
      (pss_cons (ps_set (i := 3) sc__law_value.nd rfl (.inl rfl) (pe_m1 PySem.F.slot_str_find PySem.F.type_str_find mt_find pe_str (pv 2)))
    (pss_cons (ps_if (pt_cmpR op_lt (pv 3) pe_int (nomark _))
      (pss_one (ps_ret pe_non))
      pss_nil)
    (pss_one (ps_set (i := 1) sc__law_value.nd rfl (.inl rfl) (pe_op op_add (pe_op op_mul pe_int (pv 1)) (pv 3)))))))
    (pss_one (ps_ret (pv 1))))), ?_⟩
  obtain ⟨l, rfl, hz, q⟩ := h
  refine q_asg (v := .int ((0 : Nat) : Int)) ev_c fun H1 e1 => ?_
  refine q_forX (w := l) (ev_var rfl) (fun k σ H' => ∃ (y2 y3 : Option V), σ = [some (.str (SX.S l)), some (.int ((dval (l.take k) : Nat) : Int)), y2, y3] ∧ Ex H H' ∧ (l.take k).all isD = true)
    (fun H2 e2 => ⟨none, none, rfl, e1.trans e2, rfl⟩) (fun k c σ' H' hc hw => ?_) (fun σ' H' hw => ?_)
  · obtain ⟨y2, y3, rfl, x2, hd⟩ := hw
    have ht : l.take (k + 1) = l.take k ++ [c] := by rw [List.take_add_one, hc]; rfl
    refine q_asg (v := .int (Txt.find (SX.S tenL) (SX.S [c]))) (ev_is (ev_m1 (a := SX.S tenL) (ev_is ev_c (by rw [cTen])) (ev_var rfl) fun H1 Q q => ⟨_, SX.S [c], rfl, rfl, q H1 (Ex.refl H1)⟩) rfl) fun H3 e3 => ?_
    rcases find_ten c with ⟨hD, hf⟩ | ⟨hD, hf⟩
    · rw [hf]
      refine q_when (b := decide ((-1 : Int) < 0)) (by walk_at "et") (fun hb H4 e4 => s_ret (v := .non) ev_c fun H5 e5 => ?_) (fun hb => nomatch hb)
      have q2 := q _ (((x2.trans e3).trans e4).trans e5)
      unfold lval at q2
      rw [if_neg] at q2
      · exact q2
      · intro h
        have := List.all_eq_true.mp h c (List.mem_of_getElem? hc)
        rw [hD] at this
        exact nomatch this
    · rw [hf]
      refine q_when (b := decide (((c - 48 : Nat) : Int) < 0)) (by walk_at "et") (fun hb => absurd (of_decide_eq_true hb) (by omega)) (fun hb H4 e4 => ?_)
      refine s_asg (v := .int ((dval (l.take (k + 1)) : Nat) : Int)) ?_ fun H5 e5 => ⟨_, _, rfl, ((x2.trans e3).trans e4).trans e5, by rw [ht, List.all_append, hd]; show (isD c && true) = true; rw [hD]; rfl⟩
      refine ev_is (v := .int (10 * ((dval (l.take k) : Nat) : Int) + ((c - 48 : Nat) : Int))) (by walk_at "ev") ?_
      rw [ht, dval_app]
      show _ = V.int ((dval (l.take k) * 10 ^ 1 + (0 * 10 + (c - 48)) : Nat) : Int)
      congr 1
      omega
  · obtain ⟨y2, y3, rfl, x2, hd⟩ := hw
    rw [List.take_length] at hd ⊢
    refine s_ret (v := lval l) (ev_is (ev_var rfl) ?_) fun H3 e3 => q _ (x2.trans e3)
    unfold lval
    rw [if_pos hd]
/-! ### the law's decimal text -/
def dg (r i : Nat) : Nat := r / 10 ^ (3 - i) % 10
def lst (r : Nat) : Nat → Nat
  | 0 => 4
  | i + 1 => if lst r i = 4 - i ∧ dg r (3 - i) = 0 then 3 - i else lst r i
theorem lst_le (r : Nat) : ∀ i, lst r i ≤ 4
  | 0 => Nat.le_refl 4
  | i + 1 => by
    have := lst_le r i
    unfold lst
    split <;> omega
theorem four_dg {r : Nat} (h : r < 10000) : four r = [48 + dg r 0, 48 + dg r 1, 48 + dg r 2, 48 + dg r 3] := by
  unfold four dg
  show _ = [48 + r / 1000 % 10, 48 + r / 100 % 10, 48 + r / 10 % 10, 48 + r / 1 % 10]
  rw [show r / 1000 % 10 = r / 1000 by omega, Nat.div_one]
theorem noE_four {r : Nat} (h : r < 10000) : noE (four r) = (four r).take (lst r 4) := by
  rw [four_dg h]
  generalize ha : dg r 0 = a
  generalize hb : dg r 1 = b
  generalize hc : dg r 2 = c
  generalize hd : dg r 3 = d
  simp only [lst, ha, hb, hc, hd, Nat.reduceSub, true_and]
  have nb : ∀ x : Nat, ¬ x = 0 → (48 + x == 48) = false := fun x hx => beq_eq_false_iff_ne.mpr (by omega)
  unfold noE noZ
  by_cases h1 : d = 0
  · by_cases h2 : c = 0
    · by_cases h3 : b = 0
      · by_cases h4 : a = 0
        · simp [h1, h2, h3, h4, List.dropWhile]
        · simp [h1, h2, h3, h4, List.dropWhile, nb a h4]
      · simp [h1, h2, h3, List.dropWhile, nb b h3]
    · simp [h1, h2, List.dropWhile, nb c h2]
  · simp [h1, List.dropWhile, nb d h1]
theorem noZ_nil : ∀ {l : List Nat}, noZ l = [] → ∀ x ∈ l, x = 48
  | [], _, x, hx => nomatch hx
  | c :: r, h, x, hx => by
    unfold noZ at h
    rw [List.dropWhile_cons] at h
    split at h
    · rename_i hc
      rcases List.mem_cons.mp hx with e | e
      · rw [e]; exact beq_iff_eq.mp hc
      · exact noZ_nil h x e
    · exact nomatch h
theorem lst_zero {r : Nat} (h : r < 10000) : lst r 4 = 0 ↔ r = 0 := by
  have e : noE (four r) = [] ↔ r = 0 := by
    constructor
    · intro hn
      have : dval (four r) = r := by
        rw [four_dg h]
        show (((0 * 10 + (48 + dg r 0 - 48)) * 10 + (48 + dg r 1 - 48)) * 10 + (48 + dg r 2 - 48)) * 10 + (48 + dg r 3 - 48) = r
        unfold dg
        show (((0 * 10 + (48 + r / 1000 % 10 - 48)) * 10 + (48 + r / 100 % 10 - 48)) * 10 + (48 + r / 10 % 10 - 48)) * 10 + (48 + r / 1 % 10 - 48) = r
        omega
      rw [← this, ← List.reverse_reverse (four r)]
      unfold noE at hn
      have hz : noZ (four r).reverse = [] := by simpa using hn
      have hall : ∀ x ∈ (four r).reverse, x = 48 := noZ_nil hz
      have hf : four r = [48, 48, 48, 48] := by
        unfold four at hall ⊢
        have h1 := hall (48 + r / 1000) (by simp)
        have h2 := hall (48 + r / 100 % 10) (by simp)
        have h3 := hall (48 + r / 10 % 10) (by simp)
        have h4 := hall (48 + r % 10) (by simp)
        rw [h1, h2, h3, h4]
      rw [hf]
      decide
    · intro h0
      rw [h0]
      decide
  rw [← e, noE_four h]
  have := lst_le r 4
  constructor
  · intro h; rw [h]; rfl
  · intro h0
    have := congrArg List.length h0
    rw [List.length_take] at this
    have h4 : (four r).length = 4 := rfl
    rw [h4] at this
    simp at this
    omega
def sp__law_decimal_text (K : PySem.W.Frag) : Sp := fun vs H Q _ => ∃ n : Int, vs = [.int n] ∧ n.natAbs < 10 ^ 30 ∧ ∀ H', Ex H H' → Q (.str (SX.S (dtx n))) H'
theorem ones_join : ∀ l : List Nat, Txt.join (SX.S []) (l.map fun c => SX.S [c]) = SX.S l := by
  intro l
  have e : (l.map fun c => SX.S [c]) = (l.map fun c => [c]).map SX.S := by rw [List.map_map]; rfl
  rw [e, SX.join_S]
  congr 1
  induction l with
  | nil => rfl
  | cons c r ih =>
    cases r with
    | nil => rfl
    | cons d r =>
      have e2 : TL.joinL [] (List.map (fun c => [c]) (c :: d :: r)) = c :: TL.joinL [] (List.map (fun c => [c]) (d :: r)) := rfl
      rw [e2, ih (by rw [List.map_map]; rfl)]
theorem ev_joinL {σ : L2.St} {H : Hp} {ta tb : TE} {K : PySem.W.Frag} {l : List Nat} (ha : Ev ta σ H (.str (SX.S []))) (hb : EvL tb σ H (l.map fun c => V.str (SX.S [c]))) (hz : l.length ≤ 1000) :
    Ev (tM1 (fun x xs H Q => ∃ a p ys, x = .str a ∧ xs = [.ref p] ∧ (SqL K H p (ys.map V.str) ∨ SqT K H p (ys.map V.str)) ∧ (ys.map (fun x => x.length)).sum + ys.length * a.length ≤ 16777216 ∧ Q (.str (Txt.join a ys)) H) ta tb) σ H (.str (SX.S l)) := fun H1 e Q q =>
  ha H1 e _ fun H2 e2 => ⟨⟨_, rfl⟩, hb H2 (e.trans e2) _ fun p H3 hp e3 h3 => ⟨SX.S [], p, l.map fun c => SX.S [c], rfl, rfl, .inl (sq_of (by rw [List.map_map]; exact h3)), by
    have e9 : (l.map fun c => SX.S [c]).map (fun x => x.length) = List.replicate l.length 1 := by
      rw [List.map_map, List.eq_replicate_iff]
      refine ⟨by rw [List.length_map], fun b hb => ?_⟩
      obtain ⟨c, _, rfl⟩ := List.mem_map.mp hb
      rfl
    rw [e9, List.sum_replicate_nat, List.length_map]
    show l.length * 1 + l.length * 0 ≤ _
    omega, by rw [ones_join]; exact q H3 (e2.trans e3)⟩⟩
theorem take_map {r i : Nat} (h : r < 10000) (hi : i ≤ 4) : (four r).take i = (List.range i).map fun k => 48 + dg r k := by
  rw [four_dg h]
  have : i = 0 ∨ i = 1 ∨ i = 2 ∨ i = 3 ∨ i = 4 := by omega
  rcases this with rfl | rfl | rfl | rfl | rfl <;> rfl
theorem ec_plain {σ : L2.St} {H : Hp} {ta : TE} {E : XK} {n : Nat} (ha : Ev ta σ H (.int (n : Int))) (hn : n < 10 ^ 30) : Ev (tCall (sp__law_plain K) [] E (tCons ta tNil)) σ H (.str (SX.S (TL.numL n))) := ev_call (ea_cons ha ea_nil) fun H1 e Q q E => ⟨n, rfl, hn, q⟩
theorem ok__law_decimal_text (D : Dn K mg "_law_decimal_text" s__law_decimal_text ["number"]) (c__law_plain : C8.Cal P w K mg base 1 "_law_plain" (sp__law_plain K) []) (z_abs : mg "abs" = none) (z_int : mg "int" = none) (z_range : mg "range" = none) :
    C8.Cal P w K mg base 2 "_law_decimal_text" (sp__law_decimal_text K) [] := by
  refine cal_of D sc__law_decimal_text (fun vs H Q E h => ?_) (fun f cdv A outer s H vs Q E hr h => ?_)
  · obtain ⟨_, rfl, _⟩ := h
    rfl
  refine ⟨_, (pss_cons (ps_set (i := 1) sc__law_decimal_text.nd rfl (.inl rfl) (pe_callB call_abs (by rfl) z_abs (by decide +kernel) (pa_cons (pv 0) pa_nil)))
    (pss_cons (ps_set (i := 2) sc__law_decimal_text.nd rfl (.inl rfl) (C8.pe_c c__law_plain hr (by decide) (by rfl) (pa_cons (pe_op op_fdiv (pv 1) pe_int) pa_nil)))
    (pss_cons (ps_set (i := 3) sc__law_decimal_text.nd rfl (.inr rfl) (pe_lst (pa_cons (pe_op op_mod (pe_op op_fdiv (pe_callTy call_int1 (by rfl) z_int (by decide +kernel) (pa_cons (pv 1) pa_nil)) pe_int) pe_int) (pa_cons (pe_op op_mod (pe_op op_fdiv (pe_callTy call_int1 (by rfl) z_int (by decide +kernel) (pa_cons (pv 1) pa_nil)) pe_int) pe_int) (pa_cons (pe_op op_mod (pe_op op_fdiv (pe_callTy call_int1 (by rfl) z_int (by decide +kernel) (pa_cons (pv 1) pa_nil)) pe_int) pe_int) (pa_cons (pe_op op_mod (pe_callTy call_int1 (by rfl) z_int (by decide +kernel) (pa_cons (pv 1) pa_nil)) pe_int) pa_nil))))))
    (pss_cons (ps_set (i := 4) sc__law_decimal_text.nd rfl (.inl rfl) pe_int)
    (Evl.pss_cut (ps_for PassesOwn.never rfl (pi_range1 rfl z_range (pa_cons pe_int pa_nil)) (pg_name (i := 5) sc__law_decimal_text.nd rfl (.inl rfl))
      (pss_one (ps_if (PW.pt (pw_and (pt_cmpR op_eq (pv 4) (pe_op op_sub pe_int (pv 5)) (nomark _)) (pw_and1 (pt_cmpR op_eq (pe_ix ix_list (pv 3) (pe_op op_sub pe_int (pv 5)) (fun _ _ => rfl)) pe_int (nomark _)))))
      (pss_one (ps_set (i := 4) sc__law_decimal_text.nd rfl (.inl rfl) (pe_op op_sub pe_int (pv 5))))
      pss_nil)))
    (Evl.pss_cut (ps_if (pt_cmpR op_gt (pv 4) pe_int (nomark _))
      (pss_one (ps_set (i := 2) sc__law_decimal_text.nd rfl (.inl rfl) (pe_op op_add_str (pe_op op_add_str (pv 2) pe_str) (pe_join pe_str (pe_lc (own := [("k", 5)]) (g := gName 5) (tt := tYes) rfl sc__law_decimal_text.nd (pi_range1 rfl z_range (pa_cons (pv 4) pa_nil)) (blkOk_by (N := n__law_decimal_text) (sc := C8.fnScope s__law_decimal_text) (by decide +kernel)) (fun _ _ _ _ _ => pg_name (i := 5) sc__law_decimal_text.nd rfl (Or.inl rfl)) (fun _ _ _ _ _ => pts_nil) (fun _ _ _ _ _ => (pe_ix ix_str pe_str (pe_ix (ix_listK (K := K) rfl) (pv 3) (pv 5) (fun _ _ => rfl)) (fun _ _ => rfl))))))))
      pss_nil)
    (pss_one (ps_ret (pe_op op_add_str (pe_ix ix_list (pe_lst (pa_cons pe_str (pa_cons pe_str pa_nil))) (pe_callTy call_int1 (by rfl) z_int (by decide +kernel) (pa_cons (pe_cmpR op_lt (pv 0) pe_int (nomark _)) pa_nil)) (fun _ _ => rfl)) (pv 2)))))))))), ?_⟩
  obtain ⟨n, rfl, hn, q⟩ := h
  have ha : ab n = (n.natAbs : Int) := by unfold ab; split <;> omega
  refine q_asg (v := .int (n.natAbs : Int)) (ev_is (ev_abs (i := n) (ev_var rfl)) (by rw [← ha]; rfl)) fun H1 e1 => ?_
  have hl := TL.numL_len (n := n.natAbs / 10000) (k := 30) (by decide) (by omega)
  refine q_asg (ec_plain (n := n.natAbs / 10000) (ev_is (v := .int ((n.natAbs : Int) / 10000)) (by walk_at "ev") (by rw [Int.natCast_ediv]; rfl)) (by omega)) fun H2 e2 => ?_
  have hr : n.natAbs % 10000 < 10000 := Nat.mod_lt _ (by decide)
  have d0 : dg (n.natAbs % 10000) 0 = n.natAbs / 1000 % 10 := by show n.natAbs % 10000 / 1000 % 10 = _; omega
  have d1 : dg (n.natAbs % 10000) 1 = n.natAbs / 100 % 10 := by show n.natAbs % 10000 / 100 % 10 = _; omega
  have d2 : dg (n.natAbs % 10000) 2 = n.natAbs / 10 % 10 := by show n.natAbs % 10000 / 10 % 10 = _; omega
  have d3 : dg (n.natAbs % 10000) 3 = n.natAbs % 10 := by show n.natAbs % 10000 / 1 % 10 = _; omega
  refine q_asgL (xs := [.int ((dg (n.natAbs % 10000) 0 : Nat) : Int), .int ((dg (n.natAbs % 10000) 1 : Nat) : Int), .int ((dg (n.natAbs % 10000) 2 : Nat) : Int), .int ((dg (n.natAbs % 10000) 3 : Nat) : Int)]) ?_ fun p H3 hp e3 h3 => ?_
  · refine el_lst (ea_cons ?_ (ea_cons ?_ (ea_cons ?_ (ea_cons ?_ ea_nil)))) (by show 4 ≤ 100000; decide)
    · rw [d0]; exact ev_is (v := .int ((n.natAbs : Int) / 1000 % 10)) (by walk_at "ev") (by congr 1)
    · rw [d1]; exact ev_is (v := .int ((n.natAbs : Int) / 100 % 10)) (by walk_at "ev") (by congr 1)
    · rw [d2]; exact ev_is (v := .int ((n.natAbs : Int) / 10 % 10)) (by walk_at "ev") (by congr 1)
    · rw [d3]; exact ev_is (v := .int ((n.natAbs : Int) % 10)) (by walk_at "ev") (by congr 1)
  have hdt : dtx n = (if n < 0 then [45] else []) ++ (TL.numL (n.natAbs / 10000) ++ (if n.natAbs % 10000 = 0 then [] else 46 :: noE (four (n.natAbs % 10000)))) := rfl
  have hlz := lst_zero hr
  rw [hdt, noE_four hr] at q
  clear d0 d1 d2 d3 hdt
  generalize n.natAbs % 10000 = r at *
  generalize n.natAbs / 10000 = wh at *
  have hat : ∀ i : Nat, i < 4 → atI [V.int ((dg r 0 : Nat) : Int), .int ((dg r 1 : Nat) : Int), .int ((dg r 2 : Nat) : Int), .int ((dg r 3 : Nat) : Int)] (i : Int) = some (.int ((dg r i : Nat) : Int)) := by
    intro i hi
    have : i = 0 ∨ i = 1 ∨ i = 2 ∨ i = 3 := by omega
    rcases this with rfl | rfl | rfl | rfl <;> rfl
  have x3 := (e1.trans e2).trans e3
  refine q_asg (v := .int ((4 : Nat) : Int)) ev_c fun H4 e4 => ?_
  refine q_cut (M := fun σ H' => ∃ y5, σ = [some (.int n), some (.int (n.natAbs : Int)), some (.str (SX.S (TL.numL wh))), some (.ref p), some (.int ((lst r 4 : Nat) : Int)), y5] ∧ Ex H3 H') ?_ ?_
  · refine s_forR1 (n := 4) (ea_cons ev_c ea_nil) ⟨by decide, by decide⟩
      (fun i σ H' => ∃ y5, σ = [some (.int n), some (.int (n.natAbs : Int)), some (.str (SX.S (TL.numL wh))), some (.ref p), some (.int ((lst r i : Nat) : Int)), y5] ∧ Ex H3 H')
      (fun H5 e5 => ⟨none, rfl, e4.trans e5⟩) (fun i σ' H' hi hw => ?_) (fun σ' H' hw => hw)
    obtain ⟨y5, rfl, x5⟩ := hw
    have h33 := hat (3 - i) (by omega)
    rw [show ((3 - i : Nat) : Int) = 3 - (i : Int) by omega] at h33
    refine s_when (b := decide (V.int ((lst r i : Nat) : Int) = V.int (4 - (i : Int))) && decide (V.int ((dg r (3 - i) : Nat) : Int) = V.int ((0 : Nat) : Int))) (et_and (by walk_at "et") fun _ => et_test (ev_op (ev_op (ev_var rfl) (ev_op ev_c (ev_var rfl) rv_I0) (rv_ixL (sq_of (x5 _ _ h3)) h33)) ev_c (rv_eq rfl))) (fun hb H6 e6 => ?_) (fun hb H6 e6 => ?_)
    · rw [Bool.and_eq_true, decide_eq_true_eq, decide_eq_true_eq] at hb
      have h1 := V.int.inj hb.1
      have h2 := V.int.inj hb.2
      refine s_asg (v := .int ((lst r (i + 1) : Nat) : Int)) (ev_is (v := .int (3 - (i : Int))) (by walk_at "ev") ?_) fun H7 e7 => ⟨_, rfl, (x5.trans e6).trans e7⟩
      rw [lst, if_pos ⟨by omega, by omega⟩]
      congr 1
      omega
    · refine ⟨some (.int (i : Int)), ?_, x5.trans e6⟩
      rw [lst, if_neg]
      · rfl
      · rintro ⟨h1, h2⟩
        rw [h2, show ((lst r i : Nat) : Int) = 4 - (i : Int) by omega, decide_eq_true rfl, decide_eq_true rfl] at hb
        exact nomatch hb
  intro σ' H5 hm
  obtain ⟨y5, rfl, x5⟩ := hm
  have hle := lst_le r 4
  refine q_cut (M := fun σ H' => ∃ y5, σ = [some (.int n), some (.int (n.natAbs : Int)), some (.str (SX.S (TL.numL wh ++ (if r = 0 then [] else 46 :: (four r).take (lst r 4))))), some (.ref p), some (.int ((lst r 4 : Nat) : Int)), y5] ∧ Ex H3 H') ?_ ?_
  · refine s_when (b := decide (0 < ((lst r 4 : Nat) : Int))) (by walk_at "et") (fun hb H6 e6 => ?_) (fun hb H6 e6 => ?_)
    · have h0 : ¬ r = 0 := fun e => by have := hlz.mpr e; have := of_decide_eq_true hb; omega
      rw [if_neg h0, take_map hr hle]
      refine s_asg (ev_is (ev_cat (ev_cat (a := SX.S (TL.numL wh)) (b := SX.S [46]) (ev_var rfl) (ev_is ev_c (by rw [c46])) (by rw [SX.S_len, SX.S_len]; show _ + 1 ≤ _; omega)) (ev_joinL (l := (List.range (lst r 4)).map fun k => 48 + dg r k) (ev_is ev_c (by rw [c00])) ?_ (by rw [List.length_map, List.length_range]; omega)) (by rw [SX.S_cat, SX.S_len, SX.S_len, List.length_append, List.length_map, List.length_range]; show _ + 1 + _ ≤ _; omega)) (by rw [SX.S_cat, SX.S_cat, List.append_assoc]; rfl)) fun H7 e7 => ⟨_, rfl, (x5.trans e6).trans e7⟩
      rw [List.map_map]
      have e : (List.range (lst r 4)).map ((fun c => V.str (SX.S [c])) ∘ fun k => 48 + dg r k) = given ((lst r 4 : Nat) : Int).toNat (fun _ => true) (fun k => V.str (SX.S [48 + dg r k])) := by
        unfold given
        rw [List.filter_eq_self.mpr (fun _ _ => rfl), Int.toNat_natCast]
        rfl
      rw [e]
      refine el_lcR1 _ _ (ea_cons (ev_var rfl) ea_nil) ⟨by omega, by omega⟩ (fun x => rfl) (fun i H7 e7 hi H8 e8 Q q => q H8 (Ex.refl H8)) fun i H7 e7 hi _ => ?_
      refine ev_ten (i := dg r i) (Nat.mod_lt _ (by decide)) (ev_op (ev_var rfl) (ev_var rfl) (rv_ixL (sq_of (((x5.trans e6).trans e7) _ _ h3)) (hat i (by omega))))
    · have h0 : r = 0 := hlz.mp (by have := of_decide_eq_false hb; omega)
      refine ⟨y5, ?_, x5.trans e6⟩
      rw [if_pos h0, List.append_nil]
  intro σ' H6 hm
  obtain ⟨y6, rfl, x6⟩ := hm
  have hfl : (TL.numL wh ++ (if r = 0 then [] else 46 :: (four r).take (lst r 4))).length ≤ 40 := by
    rw [List.length_append]
    split
    · show _ + 0 ≤ _; omega
    · rw [List.length_cons, List.length_take]; omega
  generalize TL.numL wh ++ (if r = 0 then [] else 46 :: (four r).take (lst r 4)) = t at *
  refine s_ret (ev_is (ev_cat (a := SX.S (if n < 0 then [45] else [])) (b := SX.S t) (ev_ixN (xs := [.str (SX.S []), .str (SX.S [45])]) (i := if decide (n < 0) = true then 1 else 0) (el_lst (ea_cons (ev_is ev_c (by rw [c00])) (ea_cons (ev_is ev_c (by rw [c45])) ea_nil)) (by show 2 ≤ 100000; decide)) (ev_intB (b := decide (n < 0)) (by walk_at "ev")) ?_) (ev_var rfl) ?_) (by rw [SX.S_cat])) fun H7 e7 => q _ (x3.trans (x6.trans e7))
  · by_cases h : n < 0
    · rw [decide_eq_true h, if_pos rfl, if_pos h]; rfl
    · rw [decide_eq_false h, if_neg (by decide), if_neg h]; rfl
  · rw [SX.S_len, SX.S_len]
    split
    · show 1 + _ ≤ _; omega
    · show 0 + _ ≤ _; omega

end
/-! ### the law's reading -/
theorem zeros_val : ∀ k, dval (List.replicate k 48) = 0
  | 0 => rfl
  | k + 1 => by
    rw [List.replicate_succ, dval_cons, zeros_val k, Nat.sub_self, Nat.zero_mul]
theorem pad_val (w p : List Nat) (h : p.length ≤ 4) : dval (w ++ pad4 p) = dval (w ++ p) * 10 ^ (4 - p.length) := by
  unfold pad4
  rw [← List.append_assoc, dval_app, zeros_val, List.length_replicate, Nat.add_zero]
theorem pt3_none {l : List Nat} (h : ∀ i : Nat, ¬ l[i]? = some 46) : pt3 l = (l, [], []) := by
  unfold pt3
  rw [TL.par_none1 (fun hm => by
    obtain ⟨i, hi, e⟩ := List.mem_iff_getElem.mp hm
    exact h i (by rw [List.getElem?_eq_getElem hi, e]))]
theorem pt3_some {l : List Nat} {i : Nat} (h : l[i]? = some 46) (hk : ∀ k : Nat, k < i → ¬ l[k]? = some 46) : pt3 l = (l.take i, [46], l.drop (i + 1)) := by
  obtain ⟨hi, e⟩ := List.getElem?_eq_some_iff.mp h
  have hl : l = l.take i ++ ([46] ++ l.drop (i + 1)) := by
    conv => lhs; rw [← List.take_append_drop i l, List.drop_eq_getElem_cons hi, e]
    rfl
  have hp := TL.par_part1 (s := 46) (S := []) (p := l.take i) (rest := l.drop (i + 1)) (acc := []) (fun hm => by
    obtain ⟨k, hk2, e2⟩ := List.mem_iff_getElem.mp hm
    rw [List.length_take] at hk2
    refine hk k (by omega) ?_
    rw [List.getElem_take] at e2
    rw [List.getElem?_eq_getElem (by omega), e2])
  rw [← hl, List.nil_append] at hp
  unfold pt3
  rw [hp]
def rdR (b : Bool) (l : List Nat) : V := if b = true then rdD l else rdI l
/-- what the law has taken apart: the digits, the fraction -/
def Apart (b : Bool) (l w p : List Nat) : Prop :=
  (w = [] ∨ (w ++ p).all isD = false → rdR b l = .non) ∧ (w ≠ [] → (w ++ p).all isD = true → rdR b l = limV (sgI l (if b = true then dval (w ++ p) * 10 ^ (4 - p.length) else dval (w ++ p))))
theorem digs_ne {l : List Nat} (h : l ≠ []) : digs l = l.all isD := by
  unfold digs
  cases l with
  | nil => exact absurd rfl h
  | cons c r => rfl
theorem apart_int (l : List Nat) : Apart false l (noM l) [] := by
  unfold Apart rdR rdI
  rw [List.append_nil]
  constructor
  · rintro (h | h)
    · rw [h]; rfl
    · show (if digs (noM l) = true then limV (sgI l (dval (noM l))) else V.non) = V.non
      rw [if_neg]
      intro e
      rw [digs_all e] at h
      exact nomatch h
  · intro h1 h2
    show (if digs (noM l) = true then limV (sgI l (dval (noM l))) else V.non) = limV (sgI l (dval (noM l)))
    rw [digs_ne h1, if_pos h2]
theorem apart_whole {l : List Nat} (h : ∀ i : Nat, ¬ (noM l)[i]? = some 46) : Apart true l (noM l) [] := by
  unfold Apart rdR rdD
  rw [pt3_none h, List.append_nil]
  show (_ → (if true = true then (if digs (noM l) = true then (if ([] : List Nat) ≠ [] ∧ _ then _ else limV (sgI l (dval (noM l ++ pad4 [])))) else _) else _) = V.non) ∧ _
  constructor
  · rintro (h | h)
    · rw [if_pos rfl, h]; rfl
    · rw [if_pos rfl, if_neg]
      intro e
      rw [digs_all e] at h
      exact nomatch h
  · intro h1 h2
    show (if digs (noM l) = true then (if ([] : List Nat) ≠ [] ∧ ¬ (digs [] = true ∧ ([] : List Nat).length ≤ 4) then V.non else limV (sgI l (dval (noM l ++ pad4 [])))) else V.non) = limV (sgI l (dval (noM l) * 10 ^ (4 - ([] : List Nat).length)))
    rw [digs_ne h1, if_pos h2, if_neg (fun z => z.1 rfl), pad_val _ _ (by decide : ([] : List Nat).length ≤ 4), List.append_nil]
theorem apart_dot {l : List Nat} {i : Nat} (h : (noM l)[i]? = some 46) (hk : ∀ k : Nat, k < i → ¬ (noM l)[k]? = some 46) :
    (((noM l).drop (i + 1)).length < 1 ∨ 4 < ((noM l).drop (i + 1)).length → rdR true l = .non) ∧ (¬ (((noM l).drop (i + 1)).length < 1 ∨ 4 < ((noM l).drop (i + 1)).length) → Apart true l ((noM l).take i) ((noM l).drop (i + 1))) := by
  unfold Apart rdR rdD
  rw [pt3_some h hk]
  generalize (noM l).take i = w
  generalize (noM l).drop (i + 1) = p
  show (_ → (if true = true then (if digs w = true then (if ([46] : List Nat) ≠ [] ∧ ¬ (digs p = true ∧ p.length ≤ 4) then V.non else limV (sgI l (dval (w ++ pad4 p)))) else V.non) else _) = V.non) ∧ (_ → (_ → (if true = true then (if digs w = true then (if ([46] : List Nat) ≠ [] ∧ ¬ (digs p = true ∧ p.length ≤ 4) then V.non else limV (sgI l (dval (w ++ pad4 p)))) else V.non) else _) = V.non) ∧ (_ → _ → (if true = true then (if digs w = true then (if ([46] : List Nat) ≠ [] ∧ ¬ (digs p = true ∧ p.length ≤ 4) then V.non else limV (sgI l (dval (w ++ pad4 p)))) else V.non) else _) = _))
  rw [if_pos rfl]
  have hn : ([46] : List Nat) ≠ [] := List.cons_ne_nil _ _
  refine ⟨fun h => ?_, fun h => ⟨fun h2 => ?_, fun h1 h2 => ?_⟩⟩
  · by_cases hw : digs w = true
    · have hx : ([46] : List Nat) ≠ [] ∧ ¬ (digs p = true ∧ p.length ≤ 4) := ⟨hn, fun z => by
        rcases h with h | h
        · have : p = [] := List.eq_nil_of_length_eq_zero (by omega)
          rw [this] at z
          exact nomatch z.1
        · omega⟩
      rw [if_pos hw, if_pos hx]
    · rw [if_neg hw]
  · by_cases hw : digs w = true
    · have hx : ([46] : List Nat) ≠ [] ∧ ¬ (digs p = true ∧ p.length ≤ 4) := ⟨hn, fun z => by
        rcases h2 with h2 | h2
        · rw [h2] at hw; exact nomatch hw
        · rw [List.all_append, digs_all hw, Bool.true_and, digs_all z.1] at h2
          exact nomatch h2⟩
      rw [if_pos hw, if_pos hx]
    · rw [if_neg hw]
  · rw [List.all_append, Bool.and_eq_true] at h2
    have hp : p ≠ [] := fun e => h (.inl (by rw [e]; decide))
    rw [digs_ne h1, if_pos h2.1, if_neg, pad_val _ _ (by omega), if_pos rfl]
    rintro ⟨_, z⟩
    exact z ⟨by rw [digs_ne hp]; exact h2.2, by omega⟩
def sp__law_read (K : PySem.W.Frag) : Sp := fun vs H Q _ => ∃ (l : List Nat) (b : Bool), vs = [.str (SX.S l), .bl b] ∧ l.length ≤ 60 ∧ ∀ H', Ex H H' → Q (rdR b l) H'
section
variable {σ : L2.St} {H : Hp} {ta tb tl th : TE}
theorem ev_slT {to : TO} {l : List Nat} {i : Nat} (ha : Ev ta σ H (.str (SX.S l))) (hn : ∀ σ H Q, Q none H → to σ H Q) (hl : Ev tl σ H (.int (i : Int))) (hz : l.length ≤ 100000) : Ev (tSl C8.rSlX ta to (tPart tl)) σ H (.str (SX.S (l.take i))) := fun H1 e Q q =>
  ha H1 e _ fun H2 e2 => hn _ _ _ (hl H2 (e.trans e2) _ fun H3 e3 => ⟨_, rfl, SX.S l, rfl, by rw [SX.S_len]; exact sz_of hz, by rw [SX.slice_to (by omega), Int.toNat_natCast]; exact q H3 (e2.trans e3)⟩)
theorem ev_val {E : XK} {K : PySem.W.Frag} {l : List Nat} (ha : Ev ta σ H (.str (SX.S l))) (hz : l.length ≤ 300) : Ev (tCall (sp__law_value K) [] E (tCons ta tNil)) σ H (lval l) := ev_call (ea_cons ha ea_nil) fun H1 e Q q E => ⟨l, rfl, hz, q⟩
theorem ev_dot {l : List Nat} (ha : Ev ta σ H (.str (SX.S l))) : Ev (tM1 (fun x xs H Q => ∃ a b, x = .str a ∧ xs = [.str b] ∧ Q (.int (Txt.find a b)) H) ta (tC (.str (PySem.Str.ofString ".")))) σ H (.int (Txt.find (SX.S l) (SX.S [46]))) :=
  ev_is (ev_m1 ha ev_c fun H1 Q q => ⟨_, _, rfl, rfl, q H1 (Ex.refl H1)⟩) (by rw [c46])
end
theorem dash_eq {c : Nat} : decide (V.str ⟨#[c]⟩ = V.str (PySem.Str.ofString "-")) = decide (c = 45) := by
  rw [c45]
  refine decide_eq_decide.mpr ⟨fun e => ?_, fun e => e ▸ rfl⟩
  have e2 : SX.S [c] = SX.S [45] := V.str.inj e
  exact List.head_eq_of_cons_eq (SX.S_inj e2)
section
variable {P : Program} {w : World} {K : PySem.W.Frag} {mg : Str → Option Value} {base : Heap}
theorem ok__law_read (D : Dn K mg "_law_read" s__law_read ["text", "decimal"]) (c__law_value : C8.Cal P w K mg base 1 "_law_value" (sp__law_value K) []) (z_int : mg "int" = none) (z_len : mg "len" = none) :
    C8.Cal P w K mg base 2 "_law_read" (sp__law_read K) [] := by
  refine cal_of D sc__law_read (fun vs H Q E h => ?_) (fun f cdv A outer s H vs Q E hr h => ?_)
  · obtain ⟨_, _, rfl, _⟩ := h
    rfl
  refine ⟨_, (pss_cons (ps_set (i := 2) sc__law_read.nd rfl (.inl rfl) (pv 0))
    (Evl.pss_cut (ps_if (PW.pt (pw_and (pt_cmpR op_gt (pe_callB call_len_str (by rfl) z_len PySem.boot_len (pa_cons (pv 0) pa_nil)) pe_int (nomark _)) (pw_and1 (pt_cmpR op_eq (pe_ix ix_str (pv 0) pe_int (fun _ _ => rfl)) pe_str (nomark _)))))
      (pss_one (ps_set (i := 2) sc__law_read.nd rfl (.inl rfl) (pe_slice C8.sl_txt (pv 0) (po_some pe_int) po_none)))
      pss_nil)
    (pss_cons (ps_set (i := 3) sc__law_read.nd rfl (.inl rfl) pe_str)
    (Evl.pss_cut (ps_if (PW.pt (pw_and (pt_val (pv 1)) (pw_and1 (pt_cmpR op_ge (pe_m1 PySem.F.slot_str_find PySem.F.type_str_find mt_find (pv 2) pe_str) pe_int (nomark _)))))
      (pss_cons (ps_set (i := 4) sc__law_read.nd rfl (.inl rfl) (pe_m1 PySem.F.slot_str_find PySem.F.type_str_find mt_find (pv 2) pe_str))
    (pss_cons (ps_set (i := 3) sc__law_read.nd rfl (.inl rfl) (pe_slice C8.sl_txt (pv 2) (po_some (pe_op op_add (pv 4) pe_int)) po_none))
    (pss_cons (ps_set (i := 2) sc__law_read.nd rfl (.inl rfl) (pe_slice C8.sl_txt (pv 2) po_none (po_some (pv 4))))
    (pss_one (ps_if (PW.pt (pw_or (pt_cmpR op_lt (pe_callB call_len_str (by rfl) z_len PySem.boot_len (pa_cons (pv 3) pa_nil)) pe_int (nomark _)) (pw_or1 (pt_cmpR op_gt (pe_callB call_len_str (by rfl) z_len PySem.boot_len (pa_cons (pv 3) pa_nil)) pe_int (nomark _)))))
      (pss_one (ps_ret pe_non))
      pss_nil)))))
      pss_nil)
    (pss_cons (ps_set (i := 5) sc__law_read.nd rfl (.inl rfl) (C8.pe_c c__law_value hr (by decide) (by rfl) (pa_cons (pe_op op_add_str (pv 2) (pv 3)) pa_nil)))
    (pss_cons (ps_if (PW.pt (pw_or (pt_cmpR op_eq (pe_callB call_len_str (by rfl) z_len PySem.boot_len (pa_cons (pv 2) pa_nil)) pe_int (nomark _)) (pw_or1 (pt_cmpR op_isN (pv 5) pe_non (nomark _)))))
      (pss_one (ps_ret pe_non))
      pss_nil)
    (Evl.pss_cut (ps_if (pt_val (pv 1))
      (pss_one (ps_set (i := 5) sc__law_read.nd rfl (.inl rfl) (pe_op op_mulW (pv 5) (pe_ix ix_list (pe_lst (pa_cons pe_int (pa_cons pe_int (pa_cons pe_int (pa_cons pe_int (pa_cons pe_int pa_nil)))))) (pe_callB call_len_str (by rfl) z_len PySem.boot_len (pa_cons (pv 3) pa_nil)) (fun _ _ => rfl)))))
      pss_nil)
    (pss_cons (ps_if (pt_cmpR op_gt (pv 5) pe_int (nomark _))
      (pss_one (ps_ret pe_non))
      pss_nil)
    (pss_one (ps_ret (pe_ix ix_list (pe_lst (pa_cons (pv 5) (pa_cons (pe_un un_neg (pv 5)) pa_nil))) (pe_callTy call_int1 (by rfl) z_int (by decide +kernel) (pa_cons (pe_cmpR op_eq (pe_ix ix_str (pv 0) pe_int (fun _ _ => rfl)) pe_str (nomark _)) pa_nil)) (fun _ _ => rfl)))))))))))), ?_⟩
  obtain ⟨l, b, rfl, hz, q⟩ := h
  have hm := noM_len l
  refine q_asg (ev_var rfl) fun H1 e1 => ?_
  refine q_cut (M := fun σ H' => σ = [some (.str (SX.S l)), some (.bl b), some (.str (SX.S (noM l))), none, none, none] ∧ Ex H H') ?_ ?_
  · cases l with
    | nil => exact s_when (b := decide (0 < (([] : List Nat).length : Int)) && false) (et_and (et_test (ev_op (ev_lenX (ev_var rfl) (by decide)) ev_c rv_I0)) fun h => nomatch h) (fun hb => nomatch hb) fun hb H2 e2 => ⟨rfl, e1.trans e2⟩
    | cons c r =>
      refine s_when (b := decide (0 < ((c :: r : List Nat).length : Int)) && decide (V.str ⟨#[c]⟩ = V.str (PySem.Str.ofString "-"))) (et_and (et_test (ev_op (ev_lenX (ev_var rfl) (by omega)) ev_c rv_I0)) fun _ => et_test (ev_op (ev_op (ev_var rfl) ev_c (rv_ixS (by rw [SX.S_len]; omega) (atI_nat (j := 0) rfl))) ev_c (rv_eq rfl))) (fun hb H2 e2 => ?_) (fun hb H2 e2 => ?_)
      · rw [dash_eq, Bool.and_eq_true, decide_eq_true_eq, decide_eq_true_eq] at hb
        refine s_asg (ev_slF (i := 1) (ev_var rfl) ev_c (fun _ _ _ q => q) (by omega)) fun H3 e3 => ⟨?_, (e1.trans e2).trans e3⟩
        unfold noM
        rw [if_pos (show (c :: r).head? = some 45 by rw [hb.2]; rfl)]
        rfl
      · rw [dash_eq, decide_eq_true (show (0 : Int) < ((c :: r : List Nat).length : Int) by rw [List.length_cons]; omega), Bool.true_and] at hb
        have hc := of_decide_eq_false hb
        refine ⟨?_, e1.trans e2⟩
        unfold noM
        rw [if_neg (show ¬ (c :: r).head? = some 45 from fun e => hc (Option.some.inj e))]
        rfl
  rintro σ' H2 ⟨rfl, x2⟩
  refine q_asg (v := .str (SX.S [])) (ev_is ev_c (by rw [c00])) fun H3 e3 => ?_
  refine q_cut (M := fun σ H' => ∃ (w p : List Nat) (y4 : Option V), σ = [some (.str (SX.S l)), some (.bl b), some (.str (SX.S w)), some (.str (SX.S p)), y4, none] ∧ Ex H H' ∧ w.length ≤ 60 ∧ p.length ≤ 4 ∧ (w ≠ [] → l ≠ []) ∧ Apart b l w p) ?_ ?_
  · have hlne : noM l ≠ [] → l ≠ [] := fun h e => by rw [e] at h; exact h rfl
    cases b with
    | false => exact s_when (b := false && false) (et_and (et_B (ev_var rfl)) fun h => nomatch h) (fun hb => nomatch hb) fun hb H4 e4 => ⟨_, _, _, rfl, (x2.trans e3).trans e4, by omega, by decide, hlne, apart_int l⟩
    | true =>
      rcases find1 (noM l) 46 with ⟨h1, h2⟩ | ⟨i, h1, h2, h3⟩
      · exact s_when (b := true && decide (0 ≤ (-1 : Int))) (et_and (et_B (ev_var rfl)) fun _ => et_test (ev_op (ev_is (ev_dot (ev_var rfl)) (by rw [h1])) ev_c rv_I0)) (fun hb => nomatch hb) fun hb H4 e4 => ⟨_, _, _, rfl, (x2.trans e3).trans e4, by omega, by decide, hlne, apart_whole h2⟩
      · refine s_when (b := true && decide (0 ≤ (i : Int))) (et_and (et_B (ev_var rfl)) fun _ => et_test (ev_op (ev_is (ev_dot (ev_var rfl)) (by rw [h1])) ev_c rv_I0)) (fun hb H4 e4 => ?_) (fun hb => by rw [Bool.true_and, decide_eq_false_iff_not] at hb; omega)
        obtain ⟨a1, a2⟩ := apart_dot h2 h3
        refine q_asg (ev_is (ev_dot (ev_var rfl)) (by rw [h1])) fun H5 e5 => ?_
        refine q_asg (ev_slF (i := i + 1) (ev_var rfl) (ev_is (ev_op (ev_var rfl) ev_c rv_I0) (by rw [Int.natCast_add]; rfl)) (fun _ _ _ q => q) (by omega)) fun H6 e6 => ?_
        refine q_asg (ev_slT (i := i) (ev_var rfl) (fun _ _ _ q => q) (ev_var rfl) (by omega)) fun H7 e7 => ?_
        have x7 := ((((x2.trans e3).trans e4).trans e5).trans e6).trans e7
        have hdl : ((noM l).drop (i + 1)).length ≤ 100 := by rw [List.length_drop]; omega
        refine s_when (b := decide ((((noM l).drop (i + 1)).length : Int) < 1) || decide ((4 : Int) < (((noM l).drop (i + 1)).length : Int))) (et_or (et_test (ev_op (ev_lenX (ev_var rfl) (by omega)) ev_c rv_I0)) fun _ => et_test (ev_op (ev_lenX (ev_var rfl) (by omega)) ev_c rv_I0)) (fun hb H8 e8 => s_ret (v := .non) ev_c fun H9 e9 => ?_) (fun hb H8 e8 => ?_)
        · rw [Bool.or_eq_true, decide_eq_true_eq, decide_eq_true_eq] at hb
          have q2 := q _ ((x7.trans e8).trans e9)
          rw [a1 (by omega)] at q2
          exact q2
        · rw [Bool.or_eq_false_iff, decide_eq_false_iff_not, decide_eq_false_iff_not] at hb
          exact ⟨_, _, _, rfl, x7.trans e8, by rw [List.length_take]; omega, by omega, fun hw e => hw (by rw [e]; exact List.take_nil), a2 (by omega)⟩
  rintro σ' H4 ⟨w, p, y4, rfl, x4, hwl, hpl, hne, hA1, hA2⟩
  refine q_asg (ev_val (ev_is (ev_cat (ev_var rfl) (ev_var rfl) (by rw [SX.S_len, SX.S_len]; omega)) (by rw [SX.S_cat])) (by rw [List.length_append]; omega)) fun H5 e5 => ?_
  have x5 := x4.trans e5
  have hlv : lval (w ++ p) = if (w ++ p).all isD = true then .int ((dval (w ++ p) : Nat) : Int) else .non := rfl
  refine q_when (b := decide (V.int (w.length : Int) = V.int ((0 : Nat) : Int)) || decide (lval (w ++ p) = .non)) (et_or (et_test (ev_op (ev_lenX (ev_var rfl) (by omega)) ev_c (rv_eq rfl))) fun _ => et_test (ev_op (ev_var rfl) ev_c rv_isN)) (fun hb H6 e6 => s_ret (v := .non) ev_c fun H7 e7 => ?_) (fun hb H6 e6 => ?_)
  · rw [Bool.or_eq_true, decide_eq_true_eq, decide_eq_true_eq] at hb
    have q2 := q _ ((x5.trans e6).trans e7)
    rw [hA1] at q2
    · exact q2
    · rcases hb with h | h
      · exact .inl (List.eq_nil_of_length_eq_zero (by have := V.int.inj h; omega))
      · refine .inr ?_
        rw [hlv] at h
        split at h
        · exact nomatch h
        · rename_i h2; simpa using h2
  rw [Bool.or_eq_false_iff, decide_eq_false_iff_not, decide_eq_false_iff_not] at hb
  have hw : w ≠ [] := fun e => hb.1 (by rw [e]; rfl)
  have hall : (w ++ p).all isD = true := by
    cases h : (w ++ p).all isD with
    | true => rfl
    | false => exact absurd (by rw [hlv, h]; rfl) hb.2
  rw [hA2 hw hall] at q
  rw [hlv, if_pos hall]
  have hv := dval_lt _ hall
  have hv2 : dval (w ++ p) < 10 ^ 64 := Nat.lt_of_lt_of_le hv (Nat.pow_le_pow_right (by decide) (by rw [List.length_append]; omega))
  generalize dval (w ++ p) = v at *
  have x6 := x5.trans e6
  refine q_cut (M := fun σ H' => σ = [some (.str (SX.S l)), some (.bl b), some (.str (SX.S w)), some (.str (SX.S p)), y4, some (.int ((if b = true then v * 10 ^ (4 - p.length) else v : Nat) : Int))] ∧ Ex H H') ?_ ?_
  · refine s_when (b := b) (et_B (ev_var rfl)) (fun hb H7 e7 => ?_) (fun hb H7 e7 => ⟨by rw [if_neg (by rw [hb]; decide)]; rfl, x6.trans e7⟩)
    have hp5 : p.length = 0 ∨ p.length = 1 ∨ p.length = 2 ∨ p.length = 3 ∨ p.length = 4 := by omega
    have hat : atI [V.int 10000, .int 1000, .int 100, .int 10, .int 1] (p.length : Int) = some (.int ((10 ^ (4 - p.length) : Nat) : Int)) := by
      rcases hp5 with h | h | h | h | h <;> (rw [h]; rfl)
    have hs : 10 ^ (4 - p.length) ≤ 10 ^ 4 := Nat.pow_le_pow_right (by decide) (by omega)
    refine s_asg (v := .int ((v : Int) * ((10 ^ (4 - p.length) : Nat) : Int))) (ev_op (ev_var rfl) (ev_ixN (el_lst (ea_cons ev_c (ea_cons ev_c (ea_cons ev_c (ea_cons ev_c (ea_cons ev_c ea_nil))))) (by show 5 ≤ 100000; decide)) (ev_lenX (ev_var rfl) (by omega)) hat) (rv_I ?_)) fun H8 e8 => ⟨?_, (x6.trans e7).trans e8⟩
    · exact wide_mul (show ((v : Nat) : Int).natAbs < 2 ^ 213 from Nat.lt_of_lt_of_le (by rw [Int.natAbs_natCast]; exact hv2) (by decide : 10 ^ 64 ≤ 2 ^ 213)) (show ((10 ^ (4 - p.length) : Nat) : Int).natAbs < 2 ^ 20 from Nat.lt_of_le_of_lt (by rw [Int.natAbs_natCast]; exact hs) (by decide : 10 ^ 4 < 2 ^ 20)) (by decide) (by decide) (by decide)
    · rw [if_pos hb, ← Int.natCast_mul]
      rfl
  rintro σ' H7 ⟨rfl, x7⟩
  have e0 : (if b = true then v * 10 ^ (4 - p.length) else v) = (if b = true then v * 10 ^ (4 - p.length) else v) := rfl
  generalize (if b = true then v * 10 ^ (4 - p.length) else v : Nat) = u at *
  refine q_when (b := decide ((1000000000000000 : Int) < (u : Int))) (by walk_at "et") (fun hb H8 e8 => s_ret (v := .non) ev_c fun H9 e9 => ?_) (fun hb H8 e8 => ?_)
  · have q2 := q _ ((x7.trans e8).trans e9)
    have hb2 := of_decide_eq_true hb
    rw [show limV (sgI l u) = .non by unfold limV sgI; split <;> rw [if_neg (by omega)]] at q2
    exact q2
  · have hb2 := of_decide_eq_false hb
    have hl0 := hne hw
    cases l with
    | nil => exact absurd rfl hl0
    | cons c r =>
      refine s_ret (v := limV (sgI (c :: r) u)) (ev_ixN (xs := [.int (u : Int), .int (-(u : Int))]) (i := if decide (V.str ⟨#[c]⟩ = V.str (PySem.Str.ofString "-")) = true then 1 else 0) (el_lst (ea_cons (ev_var rfl) (ea_cons (ev_un (ev_var rfl) ru_neg) ea_nil)) (by show 2 ≤ 100000; decide)) (ev_intB (ev_op (ev_op (ev_var rfl) ev_c (rv_ixS (by rw [SX.S_len]; omega) (atI_nat (j := 0) rfl))) ev_c (rv_eq rfl))) ?_) fun H9 e9 => q _ ((x7.trans e8).trans e9)
      rw [dash_eq]
      have hlim : ∀ z : Int, z.natAbs = u → limV z = .int z := fun z hz => by unfold limV; rw [if_pos (by omega)]
      unfold sgI
      by_cases h : c = 45
      · rw [decide_eq_true h, if_pos rfl, if_pos (show (c :: r).head? = some 45 by rw [h]; rfl), hlim _ (by omega)]
        rfl
      · rw [decide_eq_false h, if_neg (by decide), if_neg (show ¬ (c :: r).head? = some 45 from fun e => h (Option.some.inj e)), hlim _ (by omega)]
        rfl

end
/-! ### a decimal reads back -/
theorem mem_tw {p : Nat → Bool} {b : Nat} : ∀ l : List Nat, b ∈ l.takeWhile p → p b = true
  | [], h => nomatch h
  | c :: r, h => by
    rw [List.takeWhile_cons] at h
    split at h
    · rename_i hc
      rcases List.mem_cons.mp h with e | e
      · rw [e]; exact hc
      · exact mem_tw r e
    · exact nomatch h
theorem pad_noE {l : List Nat} (h : l.length = 4) : pad4 (noE l) = l := by
  have h1 := List.takeWhile_append_dropWhile (p := fun c => c == 48) (l := l.reverse)
  have h2 : l = noE l ++ (List.takeWhile (fun c => c == 48) l.reverse).reverse := by
    have := congrArg List.reverse h1
    rw [List.reverse_append, List.reverse_reverse] at this
    exact this.symm
  have h3 := congrArg List.length h2
  rw [List.length_append, List.length_reverse, h] at h3
  unfold pad4
  have h4 : (List.takeWhile (fun c => c == 48) l.reverse).reverse = List.replicate (4 - (noE l).length) 48 := by
    rw [List.eq_replicate_iff]
    refine ⟨by rw [List.length_reverse]; omega, fun b hb => ?_⟩
    have := mem_tw _ (List.mem_reverse.mp hb)
    exact beq_iff_eq.mp this
  rw [← h4]
  exact h2.symm
theorem four_val {r : Nat} (h : r < 10000) : dval (four r) = r := by
  rw [four_dg h]
  show (((0 * 10 + (48 + r / 1000 % 10 - 48)) * 10 + (48 + r / 100 % 10 - 48)) * 10 + (48 + r / 10 % 10 - 48)) * 10 + (48 + r / 1 % 10 - 48) = r
  omega
theorem numL_all (n : Nat) : (TL.numL n).all isD = true := List.all_eq_true.mpr fun c hc => by
  have := TL.numL_digits n c hc
  unfold isD
  rw [decide_eq_true this.1, decide_eq_true this.2]
  rfl
theorem four_all {r : Nat} (h : r < 10000) : (four r).all isD = true := by
  rw [four_dg h]
  have : ∀ i, isD (48 + dg r i) = true := fun i => by
    unfold isD dg
    rw [decide_eq_true (by omega), decide_eq_true (by omega)]
    rfl
  simp [this]
theorem noE_all {l : List Nat} (h : l.all isD = true) : (noE l).all isD = true := by
  unfold noE
  rw [List.all_reverse]
  exact all_noZ (by rw [List.all_reverse]; exact h)
theorem no46 {l : List Nat} (h : l.all isD = true) (i : Nat) : ¬ l[i]? = some 46 := fun e => by
  have := List.all_eq_true.mp h 46 (List.mem_of_getElem? e)
  exact absurd this (by decide)
theorem rdD_dtx (n : Int) : rdD (dtx n) = limV n := by
  have hr : n.natAbs % 10000 < 10000 := Nat.mod_lt _ (by decide)
  have hN := numL_all (n.natAbs / 10000)
  have hne := TL.numL_ne (n.natAbs / 10000)
  have hval := TL.numL_val (n.natAbs / 10000)
  have hd : n.natAbs = n.natAbs / 10000 * 10000 + n.natAbs % 10000 := by omega
  have hlz := lst_zero hr
  unfold dtx
  generalize n.natAbs % 10000 = r at *
  generalize n.natAbs / 10000 = wh at *
  generalize hX : (TL.numL wh ++ (if r = 0 then [] else 46 :: noE (four r))) = X
  have hh : ∀ c t, X = c :: t → ¬ c = 45 := by
    intro c t e hc
    cases hn : TL.numL wh with
    | nil => exact hne hn
    | cons d u =>
      rw [hn] at hX hN
      rw [List.all_cons, Bool.and_eq_true] at hN
      rw [← hX] at e
      have : d = c := (List.cons.inj e).1
      rw [this, hc] at hN
      exact absurd hN.1 (by decide)
  have hX0 : X ≠ [] := by
    intro e
    rw [e] at hX
    exact hne (List.append_eq_nil_iff.mp hX).1
  have hhead : ¬ X.head? = some 45 := by
    cases X with
    | nil => exact absurd rfl hX0
    | cons c t => exact fun e => hh c t rfl (Option.some.inj e)
  have hm : noM ((if n < 0 then [45] else []) ++ X) = X := by
    unfold noM
    by_cases h : n < 0
    · rw [if_pos h, if_pos (c := ([45] ++ X : List Nat).head? = some 45) rfl]; rfl
    · rw [if_neg h, List.nil_append, if_neg hhead]
  have hsg : ∀ u : Nat, u = n.natAbs → sgI ((if n < 0 then [45] else []) ++ X) u = n := by
    intro u hu
    unfold sgI
    by_cases h : n < 0
    · rw [if_pos h, if_pos (c := ([45] ++ X : List Nat).head? = some 45) rfl]; omega
    · rw [if_neg h, List.nil_append, if_neg hhead]; omega
  unfold rdD
  rw [hm]
  by_cases h0 : r = 0
  · rw [if_pos h0, List.append_nil] at hX
    rw [← hX] at hsg ⊢
    rw [pt3_none (no46 hN)]
    show (if digs (TL.numL wh) = true then (if ([] : List Nat) ≠ [] ∧ _ then V.non else limV (sgI _ (dval (TL.numL wh ++ pad4 [])))) else V.non) = _
    rw [digs_ne hne, if_pos hN, if_neg (fun z => z.1 rfl), hsg]
    rw [pad_val _ _ (by decide), List.append_nil]
    show NumText.digitsVal (TL.numL wh) * 10000 = _
    rw [hval]
    omega
  · rw [if_neg h0] at hX
    have hE := noE_all (four_all hr)
    have hEl := noE_len (four r)
    have hEn : noE (four r) ≠ [] := by
      intro e
      have h1 := noE_four hr
      rw [e] at h1
      have h2 := congrArg List.length h1
      rw [List.length_take, show (four r).length = 4 from rfl] at h2
      have := lst_le r 4
      have : lst r 4 = 0 := by simp at h2; omega
      exact h0 (hlz.mp this)
    have hp : pt3 X = (TL.numL wh, [46], noE (four r)) := by
      have h1 : X[(TL.numL wh).length]? = some 46 := by
        rw [← hX, List.getElem?_append_right (Nat.le_refl _), Nat.sub_self]
        rfl
      rw [pt3_some h1 (fun k hk e => no46 hN k (by rw [← hX, List.getElem?_append_left hk] at e; exact e)), ← hX, List.take_left, ← List.drop_drop, List.drop_left]
      rfl
    rw [hp]
    show (if digs (TL.numL wh) = true then (if ([46] : List Nat) ≠ [] ∧ ¬ (digs (noE (four r)) = true ∧ (noE (four r)).length ≤ 4) then V.non else limV (sgI _ (dval (TL.numL wh ++ pad4 (noE (four r)))))) else V.non) = _
    have hx : ¬ (([46] : List Nat) ≠ [] ∧ ¬ (digs (noE (four r)) = true ∧ (noE (four r)).length ≤ 4)) := fun z => z.2 ⟨by rw [digs_ne hEn]; exact hE, hEl⟩
    rw [digs_ne hne, if_pos hN, if_neg hx, hsg]
    rw [pad_noE rfl, dval_app, four_val hr]
    show NumText.digitsVal (TL.numL wh) * 10000 + r = _
    rw [hval]
    omega
theorem dtx_len {n : Int} (h : n.natAbs < 10 ^ 30) : (dtx n).length ≤ 40 := by
  unfold dtx
  have hl := TL.numL_len (n := n.natAbs / 10000) (k := 30) (by decide) (by omega)
  have hE := noE_len (four (n.natAbs % 10000))
  have h4 : (four (n.natAbs % 10000)).length = 4 := rfl
  rw [List.length_append, List.length_append]
  have h1 : (if n < 0 then [45] else [] : List Nat).length ≤ 1 := by split <;> decide
  have h2 : (if n.natAbs % 10000 = 0 then [] else 46 :: noE (four (n.natAbs % 10000)) : List Nat).length ≤ 5 := by
    split
    · decide
    · rw [List.length_cons]; omega
  omega
def sp_law (K : PySem.W.Frag) : Sp := fun vs H Q _ => ∃ (a : Addr) (ns : List Int), vs = [.ref a] ∧ SqL K H a (ns.map V.int) ∧ ns.length ≤ 63 ∧ ∀ H', Q (.bl true) H'
theorem sp_law_of {K : PySem.W.Frag} {H : Hp} {a : Addr} {ns : List Int} (hl : ns.length ≤ 63) (hS : SqL K H a (ns.map V.int)) : sp_law K [.ref a] H (fun v _ => v = .bl true) fun _ _ _ => False :=
  ⟨a, ns, rfl, hS, hl, fun _ => rfl⟩
section
variable {σ : L2.St} {H : Hp} {ta tb : TE} {K : PySem.W.Frag} {E : XK}
theorem ec_ldig {n : Int} {z : Nat} (ha : Ev ta σ H (.int n)) (hb : Ev tb σ H (.int (z : Int))) (hz : z ≤ 100) : Ev (tCall (sp__law_digits K) [] E (tCons ta (tCons tb tNil))) σ H (.str (SX.S (ldS n z).1)) := ev_call (ea_cons ha (ea_cons hb ea_nil)) fun H1 e Q q E => ⟨n, z, rfl, hz, q⟩
theorem ec_dtext {n : Int} (ha : Ev ta σ H (.int n)) (hn : n.natAbs < 10 ^ 30) : Ev (tCall (sp_decimal_text K) [] E (tCons ta tNil)) σ H (.str (SX.S (dtx n))) := ev_call (ea_cons ha ea_nil) fun H1 e Q q E => ⟨n, rfl, hn, q⟩
theorem ec_ldtext {n : Int} (ha : Ev ta σ H (.int n)) (hn : n.natAbs < 10 ^ 30) : Ev (tCall (sp__law_decimal_text K) [] E (tCons ta tNil)) σ H (.str (SX.S (dtx n))) := ev_call (ea_cons ha ea_nil) fun H1 e Q q E => ⟨n, rfl, hn, q⟩
theorem ec_rdD {l : List Nat} (ha : Ev ta σ H (.str (SX.S l))) (hn : l.length ≤ 200) : Ev (tCall (sp_read_decimal K) [] E (tCons ta tNil)) σ H (rdD l) := ev_call (ea_cons ha ea_nil) fun H1 e Q q E => ⟨l, rfl, hn, q⟩
theorem ec_rdI {l : List Nat} (ha : Ev ta σ H (.str (SX.S l))) (hn : l.length ≤ 200) : Ev (tCall (sp_read_integer K) [] E (tCons ta tNil)) σ H (rdI l) := ev_call (ea_cons ha ea_nil) fun H1 e Q q E => ⟨l, rfl, by omega, q⟩
theorem ec_lread {l : List Nat} {b : Bool} (ha : Ev ta σ H (.str (SX.S l))) (hb : Ev tb σ H (.bl b)) (hn : l.length ≤ 60) : Ev (tCall (sp__law_read K) [] E (tCons ta (tCons tb tNil))) σ H (rdR b l) := ev_call (ea_cons ha (ea_cons hb ea_nil)) fun H1 e Q q E => ⟨l, b, rfl, hn, q⟩
theorem ec_told {v : V} (ha : Ev ta σ H v) (hb : Ev tb σ H v) (hv : PlI v) : Ev (tCall (sp__law_told K) [] E (tCons ta (tCons tb tNil))) σ H (.bl true) := ev_call (ea_cons ha (ea_cons hb ea_nil)) fun H1 e Q q E => ⟨v, rfl, hv, q⟩
end
theorem rdI_pl (l : List Nat) : PlI (rdI l) := by
  unfold rdI
  split
  · exact lim_pl _
  · exact .non
theorem rdD_pl (l : List Nat) : PlI (rdD l) := by
  unfold rdD
  split
  · split
    · exact .non
    · exact lim_pl _
  · exact .non
section
variable {P : Program} {w : World} {K : PySem.W.Frag} {mg : Str → Option Value} {base : Heap}
theorem ok_law {f : Addr} {fd : FuncData} (D : C8.Def K mg "law" s_law f fd) (c__law_decimal_text : C8.Cal P w K mg base 2 "_law_decimal_text" (sp__law_decimal_text K) []) (c__law_digits : C8.Cal P w K mg base 1 "_law_digits" (sp__law_digits K) []) (c__law_number : C8.Cal P w K mg base 1 "_law_number" (sp__law_number K) []) (c__law_numbers : C8.Cal P w K mg base 1 "_law_numbers" (sp__law_numbers K) []) (c__law_read : C8.Cal P w K mg base 2 "_law_read" (sp__law_read K) []) (c__law_text : C8.Cal P w K mg base 1 "_law_text" (sp__law_text K) []) (c__law_told : C8.Cal P w K mg base 2 "_law_told" (sp__law_told K) []) (c_decimal_text : C8.Cal P w K mg base 1 "decimal_text" (sp_decimal_text K) []) (c_limited : C8.Cal P w K mg base 1 "limited" (sp_limited K) []) (c_read_decimal : C8.Cal P w K mg base 4 "read_decimal" (sp_read_decimal K) []) (c_read_integer : C8.Cal P w K mg base 4 "read_integer" (sp_read_integer K) []) (z_int : mg "int" = none) (z_isinstance : mg "isinstance" = none) (z_len : mg "len" = none) (z_str : mg "str" = none) (g_GREATEST : ∃ u, mg "GREATEST" = some u ∧ RelV (.int (1000000000000000)) u) :
    FnOk P w K mg base C8.CX0 5 f fd ["script"] (sp_law K) := by
  refine C8.fn0 D.fn sc_law (fun vs H Q E h => ?_) (fun cdv A outer s H vs Q E hr h => ?_)
  · obtain ⟨_, _, rfl, _⟩ := h
    rfl
  refine ⟨_, (pss_cons (ps_set (i := 1) sc_law.nd rfl (.inl rfl) (C8.pe_c c__law_numbers hr (by decide) (by rfl) (pa_cons (pv 0) (pa_cons pe_int pa_nil))))
    (pss_cons (ps_set (i := 2) sc_law.nd rfl (.inl rfl) (C8.pe_c c__law_number hr (by decide) (by rfl) (pa_cons (pe_ix ix_list (pv 1) pe_int (fun _ _ => rfl)) pa_nil)))
    (pss_cons (ps_set (i := 3) sc_law.nd rfl (.inl rfl) pe_non)
    (Evl.pss_cut (ps_if (pt_chain op_le op_le (pe_un un_neg pe_int) (pv 2) pe_int)
      (pss_one (ps_set (i := 3) sc_law.nd rfl (.inl rfl) (pv 2)))
      pss_nil)
    (pss_cons (ps_if (PW.pt (pw_or (pt_cmpR op_ne (C8.pe_gc rfl g_GREATEST) pe_int (nomark _)) (pw_or1 (pt_not (pt_val (C8.pe_c c__law_told hr (by decide) (by rfl) (pa_cons (C8.pe_c c_limited hr (by decide) (by rfl) (pa_cons (pv 2) pa_nil)) (pa_cons (pv 3) pa_nil))))))))
      (pss_one (ps_ret pe_bl))
      pss_nil)
    (pss_cons (ps_set (i := 4) sc_law.nd rfl (.inl rfl) (C8.pe_c c_decimal_text hr (by decide) (by rfl) (pa_cons (pv 2) pa_nil)))
    (pss_cons (ps_if (PW.pt (pw_or (pt_not (pt_val (pe_callB call_isi (by rfl) z_isinstance (by decide +kernel) (pa_cons (pv 4) (pa_cons (pe_bltn (v := .ty "str") (u := .type "str") rfl z_str (by decide +kernel) rfl) pa_nil))))) (pw_or (pt_cmpR op_ne (pv 4) (C8.pe_c c__law_decimal_text hr (by decide) (by rfl) (pa_cons (pv 2) pa_nil)) (nomark _)) (pw_or1 (pt_not (pt_val (C8.pe_c c__law_told hr (by decide) (by rfl) (pa_cons (C8.pe_c c_read_decimal hr (by decide) (by rfl) (pa_cons (pv 4) pa_nil)) (pa_cons (pv 3) pa_nil)))))))))
      (pss_one (ps_ret pe_bl))
      pss_nil)
    (pss_cons (ps_set (i := 5) sc_law.nd rfl (.inl rfl) (pe_op op_add_str (pe_ix ix_list (pe_lst (pa_cons pe_str (pa_cons pe_str pa_nil))) (pe_op op_mod (pe_callTy call_int1 (by rfl) z_int (by decide +kernel) (pa_cons (pe_ix ix_list (pv 1) pe_int (fun _ _ => rfl)) pa_nil)) pe_int) (fun _ _ => rfl)) (C8.pe_c c__law_digits hr (by decide) (by rfl) (pa_cons (pe_ix ix_list (pv 1) pe_int (fun _ _ => rfl)) (pa_cons (pe_op op_fdivW (pe_op op_mod (pe_op op_fdiv (pe_callTy call_int1 (by rfl) z_int (by decide +kernel) (pa_cons (pe_ix ix_list (pv 1) pe_int (fun _ _ => rfl)) pa_nil)) pe_int) pe_int) (pe_op op_add pe_int (pe_op op_mod (pe_op op_fdiv (pe_callTy call_int1 (by rfl) z_int (by decide +kernel) (pa_cons (pe_ix ix_list (pv 1) pe_int (fun _ _ => rfl)) pa_nil)) pe_int) pe_int))) pa_nil)))))
    (Evl.pss_cut (ps_if (pt_cmpR op_eq (pe_op op_mod (pe_callTy call_int1 (by rfl) z_int (by decide +kernel) (pa_cons (pe_ix ix_list (pv 1) pe_int (fun _ _ => rfl)) pa_nil)) pe_int) pe_int (nomark _))
      (pss_one (ps_set (i := 5) sc_law.nd rfl (.inl rfl) (pe_op op_add_str (pe_op op_add_str (pv 5) pe_str) (C8.pe_c c__law_digits hr (by decide) (by rfl) (pa_cons (pe_op op_fdiv (pe_ix ix_list (pv 1) pe_int (fun _ _ => rfl)) pe_int) (pa_cons (pe_op op_mod (pe_op op_fdiv (pe_callTy call_int1 (by rfl) z_int (by decide +kernel) (pa_cons (pe_ix ix_list (pv 1) pe_int (fun _ _ => rfl)) pa_nil)) pe_int) pe_int) pa_nil))))))
      pss_nil)
    (Evl.pss_cut (ps_if (pt_cmpR op_eq (pe_op op_mod (pe_callTy call_int1 (by rfl) z_int (by decide +kernel) (pa_cons (pe_ix ix_list (pv 1) pe_int (fun _ _ => rfl)) pa_nil)) pe_int) pe_int (nomark _))
      (pss_cons (ps_set (i := 6) sc_law.nd rfl (.inl rfl) (pe_op op_mod (pe_op op_fdiv (pe_callTy call_int1 (by rfl) z_int (by decide +kernel) (pa_cons (pe_ix ix_list (pv 1) pe_int (fun _ _ => rfl)) pa_nil)) pe_int) (pe_op op_add (pe_callB call_len_str (by rfl) z_len PySem.boot_len (pa_cons (pv 5) pa_nil)) pe_int)))
    (pss_one (ps_set (i := 5) sc_law.nd rfl (.inl rfl) (pe_op op_add_str (pe_op op_add_str (pe_slice C8.sl_txt (pv 5) po_none (po_some (pv 6))) (C8.pe_c c__law_text hr (by decide) (by rfl) (pa_cons (pe_op op_fdiv (pe_ix ix_list (pv 1) pe_int (fun _ _ => rfl)) pe_int) (pa_cons pe_int pa_nil)))) (pe_slice C8.sl_txt (pv 5) (po_some (pe_op op_add (pv 6) (pe_op op_mod (pe_op op_fdiv (pe_callTy call_int1 (by rfl) z_int (by decide +kernel) (pa_cons (pe_ix ix_list (pv 1) pe_int (fun _ _ => rfl)) pa_nil)) pe_int) pe_int))) po_none)))))
      pss_nil)
    (pss_cons (ps_if (pt_not (pt_val (C8.pe_c c__law_told hr (by decide) (by rfl) (pa_cons (C8.pe_c c_read_integer hr (by decide) (by rfl) (pa_cons (pv 5) pa_nil)) (pa_cons (C8.pe_c c__law_read hr (by decide) (by rfl) (pa_cons (pv 5) (pa_cons pe_bl pa_nil))) pa_nil)))))
      (pss_one (ps_ret pe_bl))
      pss_nil)
    (pss_one (ps_ret (C8.pe_c c__law_told hr (by decide) (by rfl) (pa_cons (C8.pe_c c_read_decimal hr (by decide) (by rfl) (pa_cons (pv 5) pa_nil)) (pa_cons (C8.pe_c c__law_read hr (by decide) (by rfl) (pa_cons (pv 5) (pa_cons pe_bl pa_nil))) pa_nil)))))))))))))))), ?_⟩
  obtain ⟨a, ns, rfl, hS, h63, q⟩ := h
  refine q_asgL (xs := (lawN ns 5).map V.int) (el_call (ea_cons (ev_var rfl) (ea_cons ev_c ea_nil)) fun H1 e Q q E => ⟨a, ns, 5, rfl, ex_l e hS, h63, by decide, q⟩) fun p1 H1 hp1 e1 h1 => ?_
  have g0 : ∀ {σ : L2.St} {H' : Hp}, σ[1]? = some (some (V.ref p1)) → Ex H1 H' → Ev (tOp (rIxL K) (tVar 1) (tC (.int 0))) σ H' (.int (cellN ns 0)) := fun hσ e => ev_op (ev_var hσ) ev_c (rv_ixL (sq_of (e _ _ h1)) (lawN_at (i := 0) (by decide)))
  have g1 : ∀ {σ : L2.St} {H' : Hp}, σ[1]? = some (some (V.ref p1)) → Ex H1 H' → Ev (tOp (rIxL K) (tVar 1) (tC (.int 1))) σ H' (.int (cellN ns 1)) := fun hσ e => ev_op (ev_var hσ) ev_c (rv_ixL (sq_of (e _ _ h1)) (lawN_at (i := 1) (by decide)))
  have g2 : ∀ {σ : L2.St} {H' : Hp}, σ[1]? = some (some (V.ref p1)) → Ex H1 H' → Ev (tOp (rIxL K) (tVar 1) (tC (.int 2))) σ H' (.int (cellN ns 2)) := fun hσ e => ev_op (ev_var hσ) ev_c (rv_ixL (sq_of (e _ _ h1)) (lawN_at (i := 2) (by decide)))
  have g3 : ∀ {σ : L2.St} {H' : Hp}, σ[1]? = some (some (V.ref p1)) → Ex H1 H' → Ev (tOp (rIxL K) (tVar 1) (tC (.int 3))) σ H' (.int (cellN ns 3)) := fun hσ e => ev_op (ev_var hσ) ev_c (rv_ixL (sq_of (e _ _ h1)) (lawN_at (i := 3) (by decide)))
  have g4 : ∀ {σ : L2.St} {H' : Hp}, σ[1]? = some (some (V.ref p1)) → Ex H1 H' → Ev (tOp (rIxL K) (tVar 1) (tC (.int 4))) σ H' (.int (cellN ns 4)) := fun hσ e => ev_op (ev_var hσ) ev_c (rv_ixL (sq_of (e _ _ h1)) (lawN_at (i := 4) (by decide)))
  generalize cellN ns 0 = n0 at g0
  generalize cellN ns 1 = n1 at g1
  generalize cellN ns 2 = n2 at g2
  generalize cellN ns 3 = n3 at g3
  generalize cellN ns 4 = n4 at g4
  refine q_callG (ea_cons (g0 rfl (Ex.refl _)) ea_nil) fun H2 e2 => ⟨n0, rfl, fun H3 n e3 hn => ?_⟩
  have hn30 : n.natAbs < 10 ^ 30 := by omega
  have x3 := e2.trans e3
  refine q_asg (σ := [some (.ref a), some (.ref p1), some (.int n), none, none, none, none]) ev_c fun H4 e4 => ?_
  refine q_cut (M := fun σ H' => σ = [some (.ref a), some (.ref p1), some (.int n), some (limV n), none, none, none] ∧ Ex H1 H') ?_ ?_
  · refine s_when (b := decide (-1000000000000000 ≤ n) && decide (n ≤ 1000000000000000)) (et_test (ev_chain (ev_un ev_c ru_neg) (ev_var rfl) rv_I0 (fun _ => ev_c) (fun _ => rv_I0))) (fun hb H5 e5 => ?_) (fun hb H5 e5 => ⟨?_, (x3.trans e4).trans e5⟩)
    · rw [Bool.and_eq_true, decide_eq_true_eq, decide_eq_true_eq] at hb
      refine s_asg (ev_var rfl) fun H6 e6 => ⟨?_, ((x3.trans e4).trans e5).trans e6⟩
      unfold limV
      rw [if_pos hb]
      rfl
    · unfold limV
      rw [if_neg]
      · rfl
      · intro z
        rw [decide_eq_true z.1, decide_eq_true z.2] at hb
        cases hb
  rintro σ' H5 ⟨rfl, x5⟩
  refine q_when (b := !decide (V.int 1000000000000000 = V.int 1000000000000000) || !true) (et_or (et_test (ev_op ev_c ev_c (rv_ne rfl))) fun _ => et_not (et_B (ec_told (ec_lim (ev_var rfl)) (ev_var rfl) (lim_pl n)))) (fun hb => by rw [decide_eq_true rfl] at hb; exact nomatch hb) fun _ H6 e6 => ?_
  refine q_asg (ec_dtext (ev_var rfl) hn30) fun H7 e7 => ?_
  have hdl := dtx_len hn30
  refine q_when (b := !true || (!decide (V.str (SX.S (dtx n)) = V.str (SX.S (dtx n))) || !true)) (et_or (et_not (et_B (ev_isi (ev_var rfl) (tx_str _) (by decide +kernel)))) fun _ => et_or (et_test (ev_op (ev_var rfl) (ec_ldtext (ev_var rfl) hn30) (rv_ne rfl))) fun _ => et_not (et_B (ec_told (ev_is (ec_rdD (ev_var rfl) (by omega)) (rdD_dtx n)) (ev_var rfl) (lim_pl n)))) (fun hb => by rw [decide_eq_true rfl] at hb; exact nomatch hb) fun _ H8 e8 => ?_
  have x8 := ((x5.trans e6).trans e7).trans e8
  have r1 := Int.emod_nonneg n1 (show (2 : Int) ≠ 0 by decide)
  have r2 := Int.emod_lt_of_pos n1 (show (0 : Int) < 2 by decide)
  have hsg : ∃ sg : List Nat, atI [V.str (SX.S []), V.str (SX.S [45])] (n1 % 2) = some (.str (SX.S sg)) ∧ sg.length ≤ 1 := by
    have : n1 % 2 = 0 ∨ n1 % 2 = 1 := by omega
    rcases this with h | h
    · exact ⟨[], by rw [h]; rfl, by decide⟩
    · exact ⟨[45], by rw [h]; rfl, by decide⟩
  obtain ⟨sg, hsg, hsl⟩ := hsg
  have hz0 : 0 ≤ n1 / 2 % 26 / (1 + n1 / 52 % 3) := Int.ediv_nonneg (by omega) (by omega)
  have hz1 : n1 / 2 % 26 / (1 + n1 / 52 % 3) ≤ n1 / 2 % 26 := Int.ediv_le_self _ (by omega)
  have hl1 := ldS_len n2 (n1 / 2 % 26 / (1 + n1 / 52 % 3)).toNat
  refine q_asg (ev_is (ev_cat (ev_ixN (el_lst (ea_cons (ev_is ev_c (by rw [c00])) (ea_cons (ev_is ev_c (by rw [c45])) ea_nil)) (by show 2 ≤ 100000; decide)) (ev_op (ev_int (g1 rfl x8)) ev_c (rv_I (by decide))) hsg) (ec_ldig (n := n2) (z := (n1 / 2 % 26 / (1 + n1 / 52 % 3)).toNat) (g2 rfl x8) (ev_is (v := .int (n1 / 2 % 26 / (1 + n1 / 52 % 3))) (ev_op (ev_op (ev_op (ev_int (g1 rfl x8)) ev_c (rv_I ⟨by decide, by decide⟩)) ev_c (rv_I (by decide))) (ev_op ev_c (ev_op (ev_op (ev_int (g1 rfl x8)) ev_c (rv_I ⟨by decide, by decide⟩)) ev_c (rv_I (by decide))) rv_I0) (rv_I (wide_div (b := 120) (by omega) (by omega) (by decide) (by decide)))) (by rw [Int.toNat_of_nonneg hz0])) (by omega)) (by rw [SX.S_len, SX.S_len, hl1]; omega)) (by rw [SX.S_cat])) fun H9 e9 => ?_
  have hw0 : (sg ++ (ldS n2 (n1 / 2 % 26 / (1 + n1 / 52 % 3)).toNat).1).length ≤ 26 := by rw [List.length_append, hl1]; omega
  generalize sg ++ (ldS n2 (n1 / 2 % 26 / (1 + n1 / 52 % 3)).toNat).1 = w0 at *
  have x9 := x8.trans e9
  refine q_cut (M := fun σ H' => ∃ w : List Nat, σ = [some (.ref a), some (.ref p1), some (.int n), some (limV n), some (.str (SX.S (dtx n))), some (.str (SX.S w)), none] ∧ Ex H1 H' ∧ w.length ≤ 40) ?_ ?_
  · refine s_when (b := decide (V.int (n3 % 2) = V.int 0)) (et_test (ev_op (ev_op (ev_int (g3 rfl x9)) ev_c (rv_I (by decide))) ev_c (rv_eq rfl))) (fun hb Ha ea => ?_) (fun hb Ha ea => ⟨w0, rfl, x9.trans ea, by omega⟩)
    have r3 := Int.emod_nonneg (n3 / 2) (show (7 : Int) ≠ 0 by decide)
    have r4 := Int.emod_lt_of_pos (n3 / 2) (show (0 : Int) < 7 by decide)
    have hl2 := ldS_len (n3 / 14) (n3 / 2 % 7).toNat
    exact s_asg (ev_is (ev_cat (a := SX.S (w0 ++ [46])) (ev_is (ev_cat (ev_var rfl) (ev_is (v := .str (PySem.Str.ofString ".")) ev_c (by rw [c46])) (by rw [SX.S_len, SX.S_len]; show _ + 1 ≤ _; omega)) (by rw [SX.S_cat])) (ec_ldig (n := n3 / 14) (z := (n3 / 2 % 7).toNat) (ev_op (g3 rfl (x9.trans ea)) ev_c (rv_I ⟨by decide, by decide⟩)) (ev_is (v := .int (n3 / 2 % 7)) (ev_op (ev_op (ev_int (g3 rfl (x9.trans ea))) ev_c (rv_I ⟨by decide, by decide⟩)) ev_c (rv_I (by decide))) (by rw [Int.toNat_of_nonneg r3])) (by omega)) (by rw [SX.S_len, SX.S_len, hl2, List.length_append]; show _ + 1 + _ ≤ _; omega)) (by rw [SX.S_cat])) fun Hb eb => ⟨_, rfl, (x9.trans ea).trans eb, by rw [List.length_append, List.length_append, hl2]; show _ + 1 + _ ≤ _; omega⟩
  rintro σ' Ha ⟨w1, rfl, xa, hw1⟩
  refine q_cut (M := fun σ H' => ∃ (w : List Nat) (y6 : Option V), σ = [some (.ref a), some (.ref p1), some (.int n), some (limV n), some (.str (SX.S (dtx n))), some (.str (SX.S w)), y6] ∧ Ex H1 H' ∧ w.length ≤ 50) ?_ ?_
  · refine s_when (b := decide (V.int (n4 % 4) = V.int 0)) (et_test (ev_op (ev_op (ev_int (g4 rfl xa)) ev_c (rv_I (by decide))) ev_c (rv_eq rfl))) (fun hb Hb eb => ?_) (fun hb Hb eb => ⟨w1, none, rfl, xa.trans eb, by omega⟩)
    have r3 := Int.emod_nonneg (n4 / 4) (show ((w1.length : Int) + 1) ≠ 0 by omega)
    have r4 := Int.emod_lt_of_pos (n4 / 4) (show (0 : Int) < (w1.length : Int) + 1 by omega)
    refine q_asg (v := .int (((n4 / 4 % ((w1.length : Int) + 1)).toNat : Nat) : Int)) (ev_is (v := .int (n4 / 4 % ((w1.length : Int) + 1))) (ev_op (ev_op (ev_int (g4 rfl (xa.trans eb))) ev_c (rv_I ⟨by decide, by decide⟩)) (ev_op (ev_lenX (ev_var rfl) (by omega)) ev_c rv_I0) (rv_I ?_)) (by rw [Int.toNat_of_nonneg r3])) fun Hc ec => ?_
    · show (0 : Int) < (w1.length : Int) + 1
      omega
    have r5 : 0 ≤ n4 / 7 % 2 ∧ n4 / 7 % 2 < 2 := by omega
    generalize (n4 / 4 % ((w1.length : Int) + 1)).toNat = at0 at *
    have xc := (xa.trans eb).trans ec
    have hlt : (lawT (n4 / 100) (1 : Int).toNat).length = 1 := by rw [lawT_len]; rfl
    refine s_asg (ev_is (ev_cat (a := SX.S (w1.take at0 ++ lawT (n4 / 100) (1 : Int).toNat)) (ev_is (ev_cat (ev_slT (i := at0) (ev_var rfl) (fun _ _ _ q => q) (ev_var rfl) (by omega)) (ec_text (n := n4 / 100) (m := 1) (ev_op (g4 rfl xc) ev_c (rv_I ⟨by decide, by decide⟩)) ev_c (by decide) (by decide)) (by rw [SX.S_len, SX.S_len, hlt, List.length_take]; omega)) (by rw [SX.S_cat])) (ev_slF (i := at0 + (n4 / 7 % 2).toNat) (ev_var rfl) (ev_is (v := .int ((at0 : Int) + n4 / 7 % 2)) (ev_op (ev_var rfl) (ev_op (ev_op (ev_int (g4 rfl xc)) ev_c (rv_I ⟨by decide, by decide⟩)) ev_c (rv_I (by decide))) rv_I0) (by rw [Int.natCast_add, Int.toNat_of_nonneg r5.1])) (fun _ _ _ q => q) (by omega)) (by rw [SX.S_len, SX.S_len, List.length_append, hlt, List.length_take, List.length_drop]; omega)) (by rw [SX.S_cat])) fun Hd ed => ⟨_, _, rfl, xc.trans ed, by rw [List.length_append, List.length_append, hlt, List.length_take, List.length_drop]; omega⟩
  rintro σ' Hb ⟨w2, y6, rfl, xb, hw2⟩
  refine q_when (b := !true) (et_not (et_B (ec_told (v := rdI w2) (ec_rdI (ev_var rfl) (by omega)) (ec_lread (b := false) (ev_var rfl) ev_c (by omega)) (rdI_pl w2)))) (fun hb => nomatch hb) fun _ Hc ec => ?_
  exact s_ret (v := .bl true) (ec_told (v := rdD w2) (ec_rdD (ev_var rfl) (by omega)) (ec_lread (b := true) (ev_var rfl) ev_c (by omega)) (rdD_pl w2)) fun Hd ed => q Hd
end
theorem all_mk {P : Program} {w : World} {K : PySem.W.Frag} {h : Heap} {mg : Str → Option Value} {fa : Addr} (X : K.In h) (G : h.Ns mainGlobals mg) (hfa : mg "law" = some (.ref fa))
    {f0 : Addr} {od0 an0 : Option Addr} {sl0 : Array (Option Value)} {oc0 kV0 dc0 pm0 cd0 ct0 : Value} (a0 : PySem.W.nsIn K mainGlobals "is_digits" = some (some (.ref f0))) (l0 : K.lookup f0 = some ⟨oc0, od0, .func (PySem.W.fnOf "is_digits" "is_digits" (C8.fnArgs s_is_digits) (C8.fnBody s_is_digits) (C8.fnScope s_is_digits) .none kV0 dc0 pm0 an0 cd0 ct0), sl0⟩) (b0 : PySem.W.codeIn K cd0 "is_digits" = true) (k0 : PySem.W.keepIn K (.ref f0) = true)
    {f1 : Addr} {od1 an1 : Option Addr} {sl1 : Array (Option Value)} {oc1 kV1 dc1 pm1 cd1 ct1 : Value} (a1 : PySem.W.nsIn K mainGlobals "limited" = some (some (.ref f1))) (l1 : K.lookup f1 = some ⟨oc1, od1, .func (PySem.W.fnOf "limited" "limited" (C8.fnArgs s_limited) (C8.fnBody s_limited) (C8.fnScope s_limited) .none kV1 dc1 pm1 an1 cd1 ct1), sl1⟩) (b1 : PySem.W.codeIn K cd1 "limited" = true) (k1 : PySem.W.keepIn K (.ref f1) = true)
    {f2 : Addr} {od2 an2 : Option Addr} {sl2 : Array (Option Value)} {oc2 kV2 dc2 pm2 cd2 ct2 : Value} (a2 : PySem.W.nsIn K mainGlobals "decimal_text" = some (some (.ref f2))) (l2 : K.lookup f2 = some ⟨oc2, od2, .func (PySem.W.fnOf "decimal_text" "decimal_text" (C8.fnArgs s_decimal_text) (C8.fnBody s_decimal_text) (C8.fnScope s_decimal_text) .none kV2 dc2 pm2 an2 cd2 ct2), sl2⟩) (b2 : PySem.W.codeIn K cd2 "decimal_text" = true) (k2 : PySem.W.keepIn K (.ref f2) = true)
    {f3 : Addr} {od3 an3 : Option Addr} {sl3 : Array (Option Value)} {oc3 kV3 dc3 pm3 cd3 ct3 : Value} (a3 : PySem.W.nsIn K mainGlobals "read_digits" = some (some (.ref f3))) (l3 : K.lookup f3 = some ⟨oc3, od3, .func (PySem.W.fnOf "read_digits" "read_digits" (C8.fnArgs s_read_digits) (C8.fnBody s_read_digits) (C8.fnScope s_read_digits) .none kV3 dc3 pm3 an3 cd3 ct3), sl3⟩) (b3 : PySem.W.codeIn K cd3 "read_digits" = true) (k3 : PySem.W.keepIn K (.ref f3) = true)
    {f4 : Addr} {od4 an4 : Option Addr} {sl4 : Array (Option Value)} {oc4 kV4 dc4 pm4 cd4 ct4 : Value} (a4 : PySem.W.nsIn K mainGlobals "_signed" = some (some (.ref f4))) (l4 : K.lookup f4 = some ⟨oc4, od4, .func (PySem.W.fnOf "_signed" "_signed" (C8.fnArgs s__signed) (C8.fnBody s__signed) (C8.fnScope s__signed) .none kV4 dc4 pm4 an4 cd4 ct4), sl4⟩) (b4 : PySem.W.codeIn K cd4 "_signed" = true) (k4 : PySem.W.keepIn K (.ref f4) = true)
    {f5 : Addr} {od5 an5 : Option Addr} {sl5 : Array (Option Value)} {oc5 kV5 dc5 pm5 cd5 ct5 : Value} (a5 : PySem.W.nsIn K mainGlobals "read_integer" = some (some (.ref f5))) (l5 : K.lookup f5 = some ⟨oc5, od5, .func (PySem.W.fnOf "read_integer" "read_integer" (C8.fnArgs s_read_integer) (C8.fnBody s_read_integer) (C8.fnScope s_read_integer) .none kV5 dc5 pm5 an5 cd5 ct5), sl5⟩) (b5 : PySem.W.codeIn K cd5 "read_integer" = true) (k5 : PySem.W.keepIn K (.ref f5) = true)
    {f6 : Addr} {od6 an6 : Option Addr} {sl6 : Array (Option Value)} {oc6 kV6 dc6 pm6 cd6 ct6 : Value} (a6 : PySem.W.nsIn K mainGlobals "read_decimal" = some (some (.ref f6))) (l6 : K.lookup f6 = some ⟨oc6, od6, .func (PySem.W.fnOf "read_decimal" "read_decimal" (C8.fnArgs s_read_decimal) (C8.fnBody s_read_decimal) (C8.fnScope s_read_decimal) .none kV6 dc6 pm6 an6 cd6 ct6), sl6⟩) (b6 : PySem.W.codeIn K cd6 "read_decimal" = true) (k6 : PySem.W.keepIn K (.ref f6) = true)
    {f7 : Addr} {od7 an7 : Option Addr} {sl7 : Array (Option Value)} {oc7 kV7 dc7 pm7 cd7 ct7 : Value} (a7 : PySem.W.nsIn K mainGlobals "_law_numbers" = some (some (.ref f7))) (l7 : K.lookup f7 = some ⟨oc7, od7, .func (PySem.W.fnOf "_law_numbers" "_law_numbers" (C8.fnArgs s__law_numbers) (C8.fnBody s__law_numbers) (C8.fnScope s__law_numbers) .none kV7 dc7 pm7 an7 cd7 ct7), sl7⟩) (b7 : PySem.W.codeIn K cd7 "_law_numbers" = true) (k7 : PySem.W.keepIn K (.ref f7) = true)
    {f8 : Addr} {od8 an8 : Option Addr} {sl8 : Array (Option Value)} {oc8 kV8 dc8 pm8 cd8 ct8 : Value} (a8 : PySem.W.nsIn K mainGlobals "_law_is_integer" = some (some (.ref f8))) (l8 : K.lookup f8 = some ⟨oc8, od8, .func (PySem.W.fnOf "_law_is_integer" "_law_is_integer" (C8.fnArgs s__law_is_integer) (C8.fnBody s__law_is_integer) (C8.fnScope s__law_is_integer) .none kV8 dc8 pm8 an8 cd8 ct8), sl8⟩) (b8 : PySem.W.codeIn K cd8 "_law_is_integer" = true) (k8 : PySem.W.keepIn K (.ref f8) = true)
    {f9 : Addr} {od9 an9 : Option Addr} {sl9 : Array (Option Value)} {oc9 kV9 dc9 pm9 cd9 ct9 : Value} (a9 : PySem.W.nsIn K mainGlobals "_law_text" = some (some (.ref f9))) (l9 : K.lookup f9 = some ⟨oc9, od9, .func (PySem.W.fnOf "_law_text" "_law_text" (C8.fnArgs s__law_text) (C8.fnBody s__law_text) (C8.fnScope s__law_text) .none kV9 dc9 pm9 an9 cd9 ct9), sl9⟩) (b9 : PySem.W.codeIn K cd9 "_law_text" = true) (k9 : PySem.W.keepIn K (.ref f9) = true)
    {f10 : Addr} {od10 an10 : Option Addr} {sl10 : Array (Option Value)} {oc10 kV10 dc10 pm10 cd10 ct10 : Value} (a10 : PySem.W.nsIn K mainGlobals "_law_number" = some (some (.ref f10))) (l10 : K.lookup f10 = some ⟨oc10, od10, .func (PySem.W.fnOf "_law_number" "_law_number" (C8.fnArgs s__law_number) (C8.fnBody s__law_number) (C8.fnScope s__law_number) .none kV10 dc10 pm10 an10 cd10 ct10), sl10⟩) (b10 : PySem.W.codeIn K cd10 "_law_number" = true) (k10 : PySem.W.keepIn K (.ref f10) = true)
    {f11 : Addr} {od11 an11 : Option Addr} {sl11 : Array (Option Value)} {oc11 kV11 dc11 pm11 cd11 ct11 : Value} (a11 : PySem.W.nsIn K mainGlobals "_law_digits" = some (some (.ref f11))) (l11 : K.lookup f11 = some ⟨oc11, od11, .func (PySem.W.fnOf "_law_digits" "_law_digits" (C8.fnArgs s__law_digits) (C8.fnBody s__law_digits) (C8.fnScope s__law_digits) .none kV11 dc11 pm11 an11 cd11 ct11), sl11⟩) (b11 : PySem.W.codeIn K cd11 "_law_digits" = true) (k11 : PySem.W.keepIn K (.ref f11) = true)
    {f12 : Addr} {od12 an12 : Option Addr} {sl12 : Array (Option Value)} {oc12 kV12 dc12 pm12 cd12 ct12 : Value} (a12 : PySem.W.nsIn K mainGlobals "_law_plain" = some (some (.ref f12))) (l12 : K.lookup f12 = some ⟨oc12, od12, .func (PySem.W.fnOf "_law_plain" "_law_plain" (C8.fnArgs s__law_plain) (C8.fnBody s__law_plain) (C8.fnScope s__law_plain) .none kV12 dc12 pm12 an12 cd12 ct12), sl12⟩) (b12 : PySem.W.codeIn K cd12 "_law_plain" = true) (k12 : PySem.W.keepIn K (.ref f12) = true)
    {f13 : Addr} {od13 an13 : Option Addr} {sl13 : Array (Option Value)} {oc13 kV13 dc13 pm13 cd13 ct13 : Value} (a13 : PySem.W.nsIn K mainGlobals "_law_decimal_text" = some (some (.ref f13))) (l13 : K.lookup f13 = some ⟨oc13, od13, .func (PySem.W.fnOf "_law_decimal_text" "_law_decimal_text" (C8.fnArgs s__law_decimal_text) (C8.fnBody s__law_decimal_text) (C8.fnScope s__law_decimal_text) .none kV13 dc13 pm13 an13 cd13 ct13), sl13⟩) (b13 : PySem.W.codeIn K cd13 "_law_decimal_text" = true) (k13 : PySem.W.keepIn K (.ref f13) = true)
    {f14 : Addr} {od14 an14 : Option Addr} {sl14 : Array (Option Value)} {oc14 kV14 dc14 pm14 cd14 ct14 : Value} (a14 : PySem.W.nsIn K mainGlobals "_law_value" = some (some (.ref f14))) (l14 : K.lookup f14 = some ⟨oc14, od14, .func (PySem.W.fnOf "_law_value" "_law_value" (C8.fnArgs s__law_value) (C8.fnBody s__law_value) (C8.fnScope s__law_value) .none kV14 dc14 pm14 an14 cd14 ct14), sl14⟩) (b14 : PySem.W.codeIn K cd14 "_law_value" = true) (k14 : PySem.W.keepIn K (.ref f14) = true)
    {f15 : Addr} {od15 an15 : Option Addr} {sl15 : Array (Option Value)} {oc15 kV15 dc15 pm15 cd15 ct15 : Value} (a15 : PySem.W.nsIn K mainGlobals "_law_read" = some (some (.ref f15))) (l15 : K.lookup f15 = some ⟨oc15, od15, .func (PySem.W.fnOf "_law_read" "_law_read" (C8.fnArgs s__law_read) (C8.fnBody s__law_read) (C8.fnScope s__law_read) .none kV15 dc15 pm15 an15 cd15 ct15), sl15⟩) (b15 : PySem.W.codeIn K cd15 "_law_read" = true) (k15 : PySem.W.keepIn K (.ref f15) = true)
    {f16 : Addr} {od16 an16 : Option Addr} {sl16 : Array (Option Value)} {oc16 kV16 dc16 pm16 cd16 ct16 : Value} (a16 : PySem.W.nsIn K mainGlobals "_law_told" = some (some (.ref f16))) (l16 : K.lookup f16 = some ⟨oc16, od16, .func (PySem.W.fnOf "_law_told" "_law_told" (C8.fnArgs s__law_told) (C8.fnBody s__law_told) (C8.fnScope s__law_told) .none kV16 dc16 pm16 an16 cd16 ct16), sl16⟩) (b16 : PySem.W.codeIn K cd16 "_law_told" = true) (k16 : PySem.W.keepIn K (.ref f16) = true)
    {f17 : Addr} {od17 an17 : Option Addr} {sl17 : Array (Option Value)} {oc17 kV17 dc17 pm17 cd17 ct17 : Value} (a17 : PySem.W.nsIn K mainGlobals "law" = some (some (.ref f17))) (l17 : K.lookup f17 = some ⟨oc17, od17, .func (PySem.W.fnOf "law" "law" (C8.fnArgs s_law) (C8.fnBody s_law) (C8.fnScope s_law) .none kV17 dc17 pm17 an17 cd17 ct17), sl17⟩) (b17 : PySem.W.codeIn K cd17 "law" = true) (k17 : PySem.W.keepIn K (.ref f17) = true)
    (z_abs : PySem.W.nsIn K mainGlobals "abs" = some none)
    (z_bool : PySem.W.nsIn K mainGlobals "bool" = some none)
    (z_divmod : PySem.W.nsIn K mainGlobals "divmod" = some none)
    (z_int : PySem.W.nsIn K mainGlobals "int" = some none)
    (z_isinstance : PySem.W.nsIn K mainGlobals "isinstance" = some none)
    (z_len : PySem.W.nsIn K mainGlobals "len" = some none)
    (z_range : PySem.W.nsIn K mainGlobals "range" = some none)
    (z_str : PySem.W.nsIn K mainGlobals "str" = some none)
    {t_GREATEST : Tok} (q_GREATEST : PySem.W.nsIn K mainGlobals "GREATEST" = some (some (.int (1000000000000000) t_GREATEST)))
    {t__MOST_DIGITS : Tok} (q__MOST_DIGITS : PySem.W.nsIn K mainGlobals "_MOST_DIGITS" = some (some (.int (16) t__MOST_DIGITS)))
    {t__SCALE : Tok} (q__SCALE : PySem.W.nsIn K mainGlobals "_SCALE" = some (some (.int (10000) t__SCALE)))
    : ∃ fd : FuncData, (∀ (s : Shared) (v : Value), BindsTo s fd ⟨[v], []⟩ [("script", v)]) ∧ ∀ base : Heap, K.In base → base.Ns mainGlobals mg → FnOk P w K mg base C8.CX0 5 fa fd ["script"] (sp_law K) := by
  have D_is_digits : Dn K mg "is_digits" s_is_digits ["text"] := dn_mk l0 b0 k0 (PySem.W.mg_of X G a0) (fun _ _ _ _ _ _ us hl => match us, hl with | [_], _ => rfl)
  have D_limited : Dn K mg "limited" s_limited ["number"] := dn_mk l1 b1 k1 (PySem.W.mg_of X G a1) (fun _ _ _ _ _ _ us hl => match us, hl with | [_], _ => rfl)
  have D_decimal_text : Dn K mg "decimal_text" s_decimal_text ["number"] := dn_mk l2 b2 k2 (PySem.W.mg_of X G a2) (fun _ _ _ _ _ _ us hl => match us, hl with | [_], _ => rfl)
  have D_read_digits : Dn K mg "read_digits" s_read_digits ["digits"] := dn_mk l3 b3 k3 (PySem.W.mg_of X G a3) (fun _ _ _ _ _ _ us hl => match us, hl with | [_], _ => rfl)
  have D__signed : Dn K mg "_signed" s__signed ["sign", "digits"] := dn_mk l4 b4 k4 (PySem.W.mg_of X G a4) (fun _ _ _ _ _ _ us hl => match us, hl with | [_, _], _ => rfl)
  have D_read_integer : Dn K mg "read_integer" s_read_integer ["text"] := dn_mk l5 b5 k5 (PySem.W.mg_of X G a5) (fun _ _ _ _ _ _ us hl => match us, hl with | [_], _ => rfl)
  have D_read_decimal : Dn K mg "read_decimal" s_read_decimal ["text"] := dn_mk l6 b6 k6 (PySem.W.mg_of X G a6) (fun _ _ _ _ _ _ us hl => match us, hl with | [_], _ => rfl)
  have D__law_numbers : Dn K mg "_law_numbers" s__law_numbers ["script", "count"] := dn_mk l7 b7 k7 (PySem.W.mg_of X G a7) (fun _ _ _ _ _ _ us hl => match us, hl with | [_, _], _ => rfl)
  have D__law_is_integer : Dn K mg "_law_is_integer" s__law_is_integer ["value"] := dn_mk l8 b8 k8 (PySem.W.mg_of X G a8) (fun _ _ _ _ _ _ us hl => match us, hl with | [_], _ => rfl)
  have D__law_text : Dn K mg "_law_text" s__law_text ["number", "size"] := dn_mk l9 b9 k9 (PySem.W.mg_of X G a9) (fun _ _ _ _ _ _ us hl => match us, hl with | [_, _], _ => rfl)
  have D__law_number : Dn K mg "_law_number" s__law_number ["number"] := dn_mk l10 b10 k10 (PySem.W.mg_of X G a10) (fun _ _ _ _ _ _ us hl => match us, hl with | [_], _ => rfl)
  have D__law_digits : Dn K mg "_law_digits" s__law_digits ["number", "size"] := dn_mk l11 b11 k11 (PySem.W.mg_of X G a11) (fun _ _ _ _ _ _ us hl => match us, hl with | [_, _], _ => rfl)
  have D__law_plain : Dn K mg "_law_plain" s__law_plain ["number"] := dn_mk l12 b12 k12 (PySem.W.mg_of X G a12) (fun _ _ _ _ _ _ us hl => match us, hl with | [_], _ => rfl)
  have D__law_decimal_text : Dn K mg "_law_decimal_text" s__law_decimal_text ["number"] := dn_mk l13 b13 k13 (PySem.W.mg_of X G a13) (fun _ _ _ _ _ _ us hl => match us, hl with | [_], _ => rfl)
  have D__law_value : Dn K mg "_law_value" s__law_value ["digits"] := dn_mk l14 b14 k14 (PySem.W.mg_of X G a14) (fun _ _ _ _ _ _ us hl => match us, hl with | [_], _ => rfl)
  have D__law_read : Dn K mg "_law_read" s__law_read ["text", "decimal"] := dn_mk l15 b15 k15 (PySem.W.mg_of X G a15) (fun _ _ _ _ _ _ us hl => match us, hl with | [_, _], _ => rfl)
  have D__law_told : Dn K mg "_law_told" s__law_told ["told", "due"] := dn_mk l16 b16 k16 (PySem.W.mg_of X G a16) (fun _ _ _ _ _ _ us hl => match us, hl with | [_, _], _ => rfl)
  have y_abs : mg "abs" = none := PySem.W.mg_none_of X G z_abs
  have y_bool : mg "bool" = none := PySem.W.mg_none_of X G z_bool
  have y_divmod : mg "divmod" = none := PySem.W.mg_none_of X G z_divmod
  have y_int : mg "int" = none := PySem.W.mg_none_of X G z_int
  have y_isinstance : mg "isinstance" = none := PySem.W.mg_none_of X G z_isinstance
  have y_len : mg "len" = none := PySem.W.mg_none_of X G z_len
  have y_range : mg "range" = none := PySem.W.mg_none_of X G z_range
  have y_str : mg "str" = none := PySem.W.mg_none_of X G z_str
  have v_GREATEST : ∃ u, mg "GREATEST" = some u ∧ RelV (.int (1000000000000000)) u := ⟨_, PySem.W.mg_of X G q_GREATEST, ⟨_, rfl⟩⟩
  have v__MOST_DIGITS : ∃ u, mg "_MOST_DIGITS" = some u ∧ RelV (.int (16)) u := ⟨_, PySem.W.mg_of X G q__MOST_DIGITS, ⟨_, rfl⟩⟩
  have v__SCALE : ∃ u, mg "_SCALE" = some u ∧ RelV (.int (10000)) u := ⟨_, PySem.W.mg_of X G q__SCALE, ⟨_, rfl⟩⟩
  have e := hfa.symm.trans (PySem.W.mg_of X G a17)
  cases e
  have D_law := def_mk (x := "law") (st := s_law) l17 b17 k17 hfa
  refine ⟨PySem.W.fnOf "law" "law" (C8.fnArgs s_law) (C8.fnBody s_law) (C8.fnScope s_law) .none kV17 dc17 pm17 an17 cd17 ct17, fun s v => .of_eq rfl, fun base _ _ => ?_⟩
  have c_is_digits := ok_is_digits (P := P) (w := w) (base := base) D_is_digits 
  have c_limited := ok_limited (P := P) (w := w) (base := base) D_limited v_GREATEST 
  have c_decimal_text := ok_decimal_text (P := P) (w := w) (base := base) D_decimal_text y_abs y_divmod y_str v__SCALE 
  have c_read_digits := ok_read_digits (P := P) (w := w) (base := base) D_read_digits c_limited y_int y_len v__MOST_DIGITS 
  have c__signed := ok__signed (P := P) (w := w) (base := base) D__signed c_read_digits 
  have c_read_integer := ok_read_integer (P := P) (w := w) (base := base) D_read_integer c__signed c_is_digits 
  have c_read_decimal := ok_read_decimal (P := P) (w := w) (base := base) D_read_decimal c__signed c_is_digits y_len 
  have c__law_numbers := ok__law_numbers (P := P) (w := w) (base := base) D__law_numbers y_int y_len y_range 
  have c__law_is_integer := ok__law_is_integer (P := P) (w := w) (base := base) D__law_is_integer y_bool y_int y_isinstance 
  have c__law_text := ok__law_text (P := P) (w := w) (base := base) D__law_text y_int y_range 
  have c__law_number := ok__law_number (P := P) (w := w) (base := base) D__law_number y_int 
  have c__law_digits := ok__law_digits (P := P) (w := w) (base := base) D__law_digits y_int y_range 
  have c__law_plain := ok__law_plain (P := P) (w := w) (base := base) D__law_plain y_int y_range 
  have c__law_decimal_text := ok__law_decimal_text (P := P) (w := w) (base := base) D__law_decimal_text c__law_plain y_abs y_int y_range 
  have c__law_value := ok__law_value (P := P) (w := w) (base := base) D__law_value 
  have c__law_read := ok__law_read (P := P) (w := w) (base := base) D__law_read c__law_value y_int y_len 
  have c__law_told := ok__law_told (P := P) (w := w) (base := base) D__law_told c__law_is_integer 
  exact ok_law (P := P) (w := w) (base := base) D_law c__law_decimal_text c__law_digits c__law_number c__law_numbers c__law_read c__law_text c__law_told c_decimal_text c_limited c_read_decimal c_read_integer y_int y_isinstance y_len y_str v_GREATEST 
end My
open PySem PySem.W PyProof.Rows
set_option maxHeartbeats 0 in
theorem PySem.Challenge.cw_stylobate_k05_numbers_as_texts_holds : PySem.Challenge.rw_stylobate_k05_numbers_as_texts.Holds := by
  w_on; o_law; k_head; (case hw => w_witness2)
  k_fill
  refine L2.walk_of (l := PySem.Challenge.rw_stylobate_k05_numbers_as_texts) (n := 63) (k := 5) (x := "script") (CX := fun _ => C8.CX0) (sp := fun w => My.sp_law _) rfl (by decide) rfl ⟨rfl, by decide, by decide⟩ (fun w h Y => PySem.W.kIn_of Y) ?F (fun _ _ a ns hl _ hS => My.sp_law_of hl hS) (fun _ _ _ _ _ h => h)
  case F =>
    intro w mg fa h KX G hmg
    refine' My.all_mk KX G hmg ?a0 ?l0 ?b0 ?k0 ?a1 ?l1 ?b1 ?k1 ?a2 ?l2 ?b2 ?k2 ?a3 ?l3 ?b3 ?k3 ?a4 ?l4 ?b4 ?k4 ?a5 ?l5 ?b5 ?k5 ?a6 ?l6 ?b6 ?k6 ?a7 ?l7 ?b7 ?k7 ?a8 ?l8 ?b8 ?k8 ?a9 ?l9 ?b9 ?k9 ?a10 ?l10 ?b10 ?k10 ?a11 ?l11 ?b11 ?k11 ?a12 ?l12 ?b12 ?k12 ?a13 ?l13 ?b13 ?k13 ?a14 ?l14 ?b14 ?k14 ?a15 ?l15 ?b15 ?k15 ?a16 ?l16 ?b16 ?k16 ?a17 ?l17 ?b17 ?k17 ?z_abs ?z_bool ?z_divmod ?z_int ?z_isinstance ?z_len ?z_range ?z_str ?q_GREATEST ?q__MOST_DIGITS ?q__SCALE
    (case a0 => k_is); (case l0 => k_is); (case b0 => k_is); (case k0 => k_is); (case a1 => k_is); (case l1 => k_is); (case b1 => k_is); (case k1 => k_is); (case a2 => k_is); (case l2 => k_is); (case b2 => k_is); (case k2 => k_is); (case a3 => k_is); (case l3 => k_is); (case b3 => k_is); (case k3 => k_is); (case a4 => k_is); (case l4 => k_is); (case b4 => k_is); (case k4 => k_is); (case a5 => k_is); (case l5 => k_is); (case b5 => k_is); (case k5 => k_is); (case a6 => k_is); (case l6 => k_is); (case b6 => k_is); (case k6 => k_is); (case a7 => k_is); (case l7 => k_is); (case b7 => k_is); (case k7 => k_is); (case a8 => k_is); (case l8 => k_is); (case b8 => k_is); (case k8 => k_is); (case a9 => k_is); (case l9 => k_is); (case b9 => k_is); (case k9 => k_is); (case a10 => k_is); (case l10 => k_is); (case b10 => k_is); (case k10 => k_is); (case a11 => k_is); (case l11 => k_is); (case b11 => k_is); (case k11 => k_is); (case a12 => k_is); (case l12 => k_is); (case b12 => k_is); (case k12 => k_is); (case a13 => k_is); (case l13 => k_is); (case b13 => k_is); (case k13 => k_is); (case a14 => k_is); (case l14 => k_is); (case b14 => k_is); (case k14 => k_is); (case a15 => k_is); (case l15 => k_is); (case b15 => k_is); (case k15 => k_is); (case a16 => k_is); (case l16 => k_is); (case b16 => k_is); (case k16 => k_is); (case a17 => k_is); (case l17 => k_is); (case b17 => k_is); (case k17 => k_is); (case z_abs => k_is); (case z_bool => k_is); (case z_divmod => k_is); (case z_int => k_is); (case z_isinstance => k_is); (case z_len => k_is); (case z_range => k_is); (case z_str => k_is); (case q_GREATEST => k_is); (case q__MOST_DIGITS => k_is); (case q__SCALE => k_is)


