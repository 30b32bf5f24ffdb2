import PyProof.Rows.All
import Wide.All
import OpenK.AllK
import Wide.FinOn
import HandS.ForMost
import HandS.Codes
import HandS.Evl
import HandS.IsInst
import HandS.Wide
import HandS.Zip
import HandS.Property
import HandS.OwnEq
import HandS.Deep
import HandS.WideBits
import HandS.Iter
import HandS.Rev
import HandS.SortKw
import HandS.TupLe
import HandS.Dict
import HandS.Text
import HandS.StrMore
import HandS.FStr
import HandS.Style
import HandS.More
import HandS.CallLocal
import KE.KEqSeq
import KE.IntBitsLaws
import KE.DataMinMax
import PyProof.StrOps2
import KE.RegKIsAll
import PySem.Challenge.RW_stylobate_k45_encoded_columns
set_option Elab.async false
set_option linter.all false
set_option maxRecDepth 100000
set_option maxHeartbeats 4000000
namespace My
open PySem PySem.Spec PyProof.Rows L2 Evl
/-! ### defs of the text, promises, the end -/
def Dn (K : PySem.W.Frag) (mg : Str → Option Value) (x : Str) (st : Stmt) (ps : List Str) : Prop := ∃ f fd, C8.Def K mg x st f fd ∧ Binds K fd ps []
section
variable {P : Program} {w : World} {K : PySem.W.Frag} {mg : Str → Option Value} {base : Heap}
theorem cal_of {x : Str} {st : Stmt} {N ps : List Str} {k : Nat} {sp : Sp} (D : Dn K mg x st ps) (S : FnScope N ps (C8.fnScope st)) (len : ∀ vs H Q E, sp vs H Q E → vs.length = ps.length)
    (hbody : ∀ (f : Addr) (cdv : Value) (A : Around) (outer : List Env) (s : Shared) (H : Hp) (vs : List V) (Q : VK) (E : XK), Room k (A.deeper (envOfC x (C8.fnScope st) s.heap.objs.size f cdv)) → sp vs H Q E →
      ∃ t, PSs (cxOf C8.CX0 P w K mg base N x (C8.fnScope st) f cdv A outer s H E).nox (C8.fnBody st) t ∧ t { nx := fun _ H' => Q .non H', rt := Q } (start N vs) H) : C8.Cal P w K mg base (k + 1) x sp [] := by
  obtain ⟨f, fd, F, b⟩ := D
  exact C8.cal0 F b .nil S len (hbody f)
theorem def_mk {x : Str} {st : Stmt} {f : Addr} {oc : Value} {od an : Option Addr} {osl : Array (Option Value)} {kV doc pm cdv ct : Value}
    (l : K.lookup f = some ⟨oc, od, .func (PySem.W.fnOf x x (C8.fnArgs st) (C8.fnBody st) (C8.fnScope st) .none kV doc pm an cdv ct), osl⟩)
    (c : PySem.W.codeIn K cdv x = true) (k : PySem.W.keepIn K (.ref f) = true) (m : mg x = some (.ref f)) : C8.Def K mg x st f (PySem.W.fnOf x x (C8.fnArgs st) (C8.fnBody st) (C8.fnScope st) .none kV doc pm an cdv ct) :=
  ⟨⟨oc, od, .none, kV, doc, pm, an, cdv, ct, osl, rfl, l, c⟩, m, k⟩
theorem dn_mk {x : Str} {st : Stmt} {f : Addr} {oc : Value} {od an : Option Addr} {osl : Array (Option Value)} {kV doc pm cdv ct : Value} {ps : List Str}
    (l : K.lookup f = some ⟨oc, od, .func (PySem.W.fnOf x x (C8.fnArgs st) (C8.fnBody st) (C8.fnScope st) .none kV doc pm an cdv ct), osl⟩)
    (c : PySem.W.codeIn K cdv x = true) (k : PySem.W.keepIn K (.ref f) = true) (m : mg x = some (.ref f))
    (h : ∀ (kV doc pm : Value) (an : Option Addr) (cdv ct : Value) (us : List Value), us.length = ps.length → bindArgs (PySem.W.fnOf x x (C8.fnArgs st) (C8.fnBody st) (C8.fnScope st) .none kV doc pm an cdv ct) ⟨us, []⟩ = pure (ps.zip us)) : Dn K mg x st ps :=
  ⟨f, _, def_mk l c k m, C8.Fun.binds (def_mk l c k m).fn rfl h⟩
end
/-! ### x is True, x is False, of any value -/
def rIsT : R2 := fun x y H Q => ∃ b : Bool, y = .bl b ∧ Q (.bl (decide (x = .bl b))) H
def rNotT : R2 := fun x y H Q => ∃ b : Bool, y = .bl b ∧ Q (.bl (!decide (x = .bl b))) H
section
variable {X : Cx}
theorem rel_bl {x : V} {v : Value} {b : Bool} (rx : RelV x v) : PySem.plainIs v (.bool b) = true ∧ (v == .bool b) = decide (x = .bl b) ∨ ∃ n, v = .builtin n := by
  cases x with
  | non => cases (show v = Value.none from rx); exact .inl ⟨rfl, rfl⟩
  | bl c => cases (show v = Value.bool c from rx); exact .inl ⟨rfl, by cases b <;> cases c <;> rfl⟩
  | int i => obtain ⟨t, e⟩ := (show ∃ t, v = Value.int i t from rx); cases e; exact .inl ⟨rfl, rfl⟩
  | str i => obtain ⟨t, e⟩ := (show ∃ t, v = Value.str i t from rx); cases e; exact .inl ⟨rfl, rfl⟩
  | byt i => obtain ⟨t, e⟩ := (show ∃ t, v = Value.bytes i t from rx); cases e; exact .inl ⟨rfl, rfl⟩
  | flt i => obtain ⟨t, e⟩ := (show ∃ t, v = Value.float i t from rx); cases e; exact .inl ⟨rfl, rfl⟩
  | ref a => cases (show v = Value.ref a from rx); exact .inl ⟨rfl, rfl⟩
  | ty n => cases (show v = Value.type n from rx); exact .inl ⟨rfl, rfl⟩
theorem rel_bl' {x : V} {v : Value} {b : Bool} (rx : RelV x v) : PySem.plainIs v (.bool b) = true ∧ (v == .bool b) = decide (x = .bl b) := by
  rcases rel_bl (b := b) rx with h | ⟨n, rfl⟩
  · exact h
  · cases x <;> first | exact nomatch (rx : Value.builtin n = _) | (obtain ⟨t, e⟩ := rx; exact nomatch e)
theorem op_isTF : OpR X (compareOp .Is) rIsT := by
  intro pins s σ H x y v u Q I rx ry h
  obtain ⟨b, rfl, q⟩ := h
  cases (show u = Value.bool b from ry)
  obtain ⟨h1, h2⟩ := rel_bl' (b := b) rx
  exact wpAny_is_plain h1 ⟨.bl _, H, I, rfl, by rw [h2]; exact q⟩
theorem op_notTF : OpR X (compareOp .IsNot) rNotT := by
  intro pins s σ H x y v u Q I rx ry h
  obtain ⟨b, rfl, q⟩ := h
  cases (show u = Value.bool b from ry)
  obtain ⟨h1, h2⟩ := rel_bl' (b := b) rx
  exact wpAny_isNot_plain h1 ⟨.bl _, H, I, rfl, by rw [h2]; exact q⟩
end
/-! ### what evaluates to what: further -/
section
variable {K : PySem.W.Frag} {σ : L2.St} {H H' : Hp} {ta tb te tx : TE} {t u : TT} {x y z v : V} {r : R2}
theorem rv_isT {b : Bool} : RV rIsT x (.bl b) H (.bl (decide (x = .bl b))) := fun H1 _ _ q => ⟨b, rfl, q H1 (Ex.refl H1)⟩
theorem rv_notT {b : Bool} : RV rNotT x (.bl b) H (.bl (!decide (x = .bl b))) := fun H1 _ _ q => ⟨b, rfl, q H1 (Ex.refl H1)⟩
theorem rv_isN : RV (fun x y H Q => y = .non ∧ Q (.bl (decide (x = .non))) H) x .non H (.bl (decide (x = .non))) := fun H1 _ _ q => ⟨rfl, q H1 (Ex.refl H1)⟩
theorem rv_notN : RV (fun x y H Q => y = .non ∧ Q (.bl (!decide (x = .non))) H) x .non H (.bl (!decide (x = .non))) := fun H1 _ _ q => ⟨rfl, q H1 (Ex.refl H1)⟩
theorem ev_int {i : Int} (h : Ev ta σ H (.int i)) : Ev (tCB (fun xs H Q => (∃ i, xs = [.int i] ∧ Q (.int i) H) ∨ ∃ k, xs = [.bl k] ∧ Q (.int (if k then 1 else 0)) H) (tCons ta tNil)) σ H (.int i) :=
  fun H1 e Q q => h H1 e _ fun H2 e2 => .inl ⟨i, rfl, q H2 e2⟩
theorem ev_intB {b : Bool} (h : Ev ta σ H (.bl b)) : Ev (tCB (fun xs H Q => (∃ i, xs = [.int i] ∧ Q (.int i) H) ∨ ∃ k, xs = [.bl k] ∧ Q (.int (if k then 1 else 0)) H) (tCons ta tNil)) σ H (.int (if b then 1 else 0)) :=
  fun H1 e Q q => h H1 e _ fun H2 e2 => .inr ⟨b, rfl, q H2 e2⟩
theorem ev_abs {i : Int} (h : Ev ta σ H (.int i)) : Ev (tCB (fun xs H Q => ∃ i, xs = [.int i] ∧ Q (.int (if i < 0 then -i else i)) H) (tCons ta tNil)) σ H (.int (if i < 0 then -i else i)) :=
  fun H1 e Q q => h H1 e _ fun H2 e2 => ⟨i, rfl, q H2 e2⟩
theorem ev_min2 {i j : Int} (ha : Ev ta σ H (.int i)) (hb : Ev tb σ H (.int j)) : Ev (tCB (fun xs H Q => ∃ i j, xs = [.int i, .int j] ∧ Q (.int (if j < i then j else i)) H) (tCons ta (tCons tb tNil))) σ H (.int (if j < i then j else i)) := fun H1 e Q q =>
  ha H1 e _ fun H2 e2 => hb H2 (e.trans e2) _ fun H3 e3 => ⟨i, j, rfl, q H3 (e2.trans e3)⟩
theorem ev_lenS {s : Str} (h : Ev ta σ H (.str s)) (hz : s.length ≤ 100000) : Ev (tCB (fun xs H Q => ∃ z, xs = [.str z] ∧ z.length ≤ sizeLine ∧ Q (.int z.length) H) (tCons ta tNil)) σ H (.int s.length) :=
  fun H1 e Q q => h H1 e _ fun H2 e2 => ⟨s, rfl, sz_of hz, q H2 e2⟩
/-- isinstance(x, T) of a plain value -/
def tyOf : V → String
  | .non => "NoneType"
  | .bl _ => "bool"
  | .int _ => "int"
  | .str _ => "str"
  | .byt _ => "bytes"
  | .flt _ => "float"
  | _ => "?"
def isTy (x : V) (T : String) : Bool := ((kitB (tyOf x) T).getD false)
theorem ev_isi {T : String} {tn : String} {b : Bool} (ha : Ev ta σ H x) (ht : ∀ H1, TyX K H1 x (.type tn)) (hk : kitB tn T = some b) : Ev (tCB (rIsi K) (tCons ta (tCons (tC (.ty T)) tNil))) σ H (.bl b) :=
  fun H1 e Q q => ha H1 e _ fun H2 e2 => ⟨x, .ty T, .type tn, .type T, b, rfl, .ty T, ht H2, kit_ty hk, q H2 e2⟩
theorem tx_int (i : Int) (H1 : Hp) : TyX K H1 (.int i) (.type "int") := .base (.int i)
theorem tx_bl (i : Bool) (H1 : Hp) : TyX K H1 (.bl i) (.type "bool") := .base (.bl i)
theorem tx_str (i : Str) (H1 : Hp) : TyX K H1 (.str i) (.type "str") := .base (.str i)
theorem tx_non (H1 : Hp) : TyX K H1 .non (.type "NoneType") := .base .non
section
variable {D : Ends} {tz : TS}
/-- if c: x = e, an int: told by the value x has behind it -/
theorem q_ifI {b : Bool} {i : Nat} {p q : Int} (h : EvT t σ H b) (h1 : b = true → Ev te σ H (.int p)) (h0 : σ[i]? = some (some (.int q))) (k : ∀ H1, Ex H H1 → tz D (σ.set i (some (.int (if b = true then p else q)))) H1) : tSeq (tIfS t (tAsg te (gName i)) tNext) tz D σ H := by
  refine q_ifAsg h (fun hb => ?_) (fun hb => ?_) k
  · rw [if_pos hb]
    exact h1 hb
  · rw [hb]
    show σ.set i (some (V.int q)) = σ
    apply List.ext_getElem?
    intro j
    rw [List.getElem?_set]
    split
    · rename_i e
      subst e
      rw [h0]
      have := (List.getElem?_eq_some_iff.mp h0).1
      rw [if_pos this]
    · rfl
end
/-- a promise of one value, all else as it was -/
theorem spv {sp : Sp} {vs : List V} (h : ∀ H1, Ex H H1 → ∀ Q : VK, (∀ H2, Ex H1 H2 → Q z H2) → ∀ E : XK, sp vs H1 Q E) : SpV sp vs H z := h
end
local macro_rules | `(tactic| walk_at "side") => `(tactic| first
  | exact .inr ⟨by decide, by decide⟩
  | exact .inl ⟨by decide, by decide⟩
  | exact .inl ⟨by omega, by omega⟩
  | exact .inr ⟨by omega, by omega⟩
  | exact ⟨by decide, by decide⟩
  | exact ⟨by omega, by omega⟩
  | decide
  | (show (_ : Int) < _; omega)
  | omega)
local macro_rules | `(tactic| walk_at "rv") => `(tactic| first
  | exact rv_I0
  | ((refine' rv_I ?k1); (case k1 => walk_at "side"))
  | exact rv_isT
  | exact rv_notT
  | exact rv_isN
  | exact rv_notN
  | exact rv_eq rfl
  | exact rv_ne rfl)
local macro_rules | `(tactic| walk_at "sq") => `(tactic| first | assumption | exact ex_l (by assumption) (by assumption) | exact sq_of (by assumption))
/-- what a part gives, read off its form -/
local macro_rules | `(tactic| walk_at "ev") => `(tactic| first
  | exact ev_var rfl
  | exact ev_c
  | ((with_reducible refine' ev_op ?k1 ?k2 ?k3); (case k1 => walk_at "ev"); (case k2 => walk_at "ev"); (case k3 => walk_at "rv"))
  | ((with_reducible refine' ev_un ?k1 ?k2); (case k1 => walk_at "ev"); (case k2 => exact ru_neg))
  | ((with_reducible refine' ev_int ?k1); (case k1 => walk_at "ev"))
  | ((with_reducible refine' ev_abs ?k1); (case k1 => walk_at "ev"))
  | ((with_reducible refine' ev_andV ?k1 ?k2); (case k1 => walk_at "ev"); (case k2 => intro _; walk_at "ev"))
  | ((with_reducible refine' ev_orV ?k1 ?k2); (case k1 => walk_at "ev"); (case k2 => intro _; walk_at "ev"))
  | ((with_reducible refine' ev_notV ?k1); (case k1 => walk_at "ev"))
  | ((refine' ev_len ?k1 ?k2); (case k1 => walk_at "ev"); (case k2 => walk_at "sq")))
local macro_rules | `(tactic| walk_at "et") => `(tactic| first
  | ((with_reducible refine' et_or ?k1 ?k2); (case k1 => walk_at "et"); (case k2 => intro _; walk_at "et"))
  | ((with_reducible refine' et_and ?k1 ?k2); (case k1 => walk_at "et"); (case k2 => intro _; walk_at "et"))
  | ((with_reducible refine' et_not ?k1); (case k1 => walk_at "et"))
  | (refine' et_test ?k1; (case k1 => walk_at "ev"))
  | (refine' et_B ?k1; (case k1 => walk_at "ev")))

/-! ### tuples made, tuples read, data compared -/
def SpU (sp : Sp) (vs : List V) (H : Hp) (xs : List V) : Prop := ∀ H1, Ex H H1 → ∀ Q : VK, (∀ p H2, H1 p = none → Ex H1 H2 → H2 p = some (.tup xs) → Q (.ref p) H2) → ∀ E : XK, sp vs H1 Q E
section
variable {K : PySem.W.Frag} {σ : L2.St} {H H' : Hp} {ta tb te : TE} {x y z v : V}
theorem eu_call {sp : Sp} {dvs vs xs : List V} {E : XK} {ta : TA} (h : EvA ta σ H vs) (hs : SpU sp (vs ++ dvs) H xs) : EvU (tCall sp dvs E ta) σ H xs := fun H1 e Q q =>
  h H1 e _ fun H2 e2 => hs H2 (e.trans e2) Q (fun p H3 hp e3 h3 => q p H3 (fresh_back e2 hp) (e2.trans e3) h3) E
theorem ev_lenT {p : Addr} {xs : List V} (ha : Ev ta σ H (.ref p)) (h : SqT K H p xs) : Ev (tCB (fun xs H Q => ∃ p ys, xs = [.ref p] ∧ (SqL K H p ys ∨ SqT K H p ys) ∧ Q (.int ys.length) H) (tCons ta tNil)) σ H (.int (xs.length : Int)) := fun H1 e Q q =>
  ha H1 e _ fun H2 e2 => ⟨p, xs, rfl, Or.inr (ex_t (e.trans e2) h), q H2 e2⟩
theorem eu_divmod {i j : Int} (ha : Ev ta σ H (.int i)) (hb : Ev tb σ H (.int j)) (hc : CDiv i j) :
    EvU (tCB (fun xs H Q => ∃ i j, xs = [.int i, .int j] ∧ CDiv i j ∧ ∀ p, H p = none → Q (.ref p) (upd H p (.tup [.int (i / j), .int (i % j)]))) (tCons ta (tCons tb tNil))) σ H [.int (i / j), .int (i % j)] := fun H1 e Q q =>
  ha H1 e _ fun H2 e2 => hb H2 (e.trans e2) _ fun H3 e3 => ⟨i, j, rfl, hc, fun p hp => q p _ (fresh_back (e2.trans e3) hp) ((e2.trans e3).trans (Ex.new hp)) upd_same⟩
theorem dp_ints : ∀ ns : List Int, DpAll K H (ns.map V.int) (ns.map PyData.int)
  | [] => .nil
  | n :: r => .cons (.int n) (dp_ints r)
theorem eqv_ints : ∀ ns ms : List Int, PyData.eqv (.tuple (ns.map PyData.int)) (.tuple (ms.map PyData.int)) = decide (ns = ms)
  | [], [] => rfl
  | [], _ :: _ => rfl
  | _ :: _, [] => rfl
  | n :: r, m :: t => by
    have ih := eqv_ints r t
    show ((n == m) && PyData.eqv (.tuple (r.map PyData.int)) (.tuple (t.map PyData.int))) = _
    rw [ih, Bool.eq_iff_iff, Bool.and_eq_true, decide_eq_true_eq, decide_eq_true_eq, beq_iff_eq, List.cons.injEq]
theorem dp_tup {p : Addr} {ns : List Int} (h : SqT K H p (ns.map V.int)) : Dp K H (.ref p) (.tuple (ns.map PyData.int)) := .tup h (dp_ints ns)
def shI (n : Nat) : Bool := SeqAt.shaped (.tuple ((List.replicate n 0).map PyData.int))
theorem rv_neT {p q : Addr} {ns ms : List Int} (hp : SqT K H p (ns.map V.int)) (hq : SqT K H q (ms.map V.int)) (s1 : SeqAt.shaped (.tuple (ns.map PyData.int)) = true) (s2 : SeqAt.shaped (.tuple (ms.map PyData.int)) = true) : RV (rNeD K) (.ref p) (.ref q) H (.bl (!decide (ns = ms))) := fun H1 e Q k =>
  ⟨_, _, dp_tup (ex_t e hp), dp_tup (ex_t e hq), s1, s2, by rw [eqv_ints]; exact k H1 (Ex.refl H1)⟩
theorem tx_tup {a : Addr} {xs : List V} (h : H a = some (.tup xs)) : ∀ H1, Ex H H1 → TyX K H1 (.ref a) (.type "tuple") := fun H1 e => .base (.tup (e _ _ h))
theorem ev_isi' {T : String} {tn : String} {b : Bool} (ha : Ev ta σ H x) (ht : ∀ H1, Ex H H1 → TyX K H1 x (.type tn)) (hk : kitB tn T = some b) : Ev (tCB (rIsi K) (tCons ta (tCons (tC (.ty T)) tNil))) σ H (.bl b) :=
  fun H1 e Q q => ha H1 e _ fun H2 e2 => ⟨x, .ty T, .type tn, .type T, b, rfl, .ty T, ht H2 (e.trans e2), kit_ty hk, q H2 e2⟩
theorem ev_chain {r r' : R2} {tc : TE} {b c : Bool} (ha : Ev ta σ H x) (hb : Ev tb σ H y) (hr : RV r x y H (.bl b)) (hc : b = true → Ev tc σ H z) (hr' : b = true → RV r' y z H (.bl c)) : Ev (tChain r r' ta tb tc) σ H (.bl (b && c)) := fun H1 e Q q =>
  ha H1 e _ fun H2 e2 => hb H2 (e.trans e2) _ fun H3 e3 => hr H3 ((e.trans e2).trans e3) _ fun H4 e4 => ⟨b, rfl, by
    cases b with
    | true =>
      show tc σ H4 fun w' H5 => r' y w' H5 Q
      exact hc rfl H4 (((e.trans e2).trans e3).trans e4) _ fun H5 e5 => hr' rfl H5 ((((e.trans e2).trans e3).trans e4).trans e5) Q fun H6 e6 => q H6 ((((e2.trans e3).trans e4).trans e5).trans e6)
    | false =>
      show Q (.bl false) H4
      exact q H4 ((e2.trans e3).trans e4)⟩
/-- a, b = (..): a new tuple unpacked into names -/
theorem gt2 {p : Addr} {i j : Nat} (h : SqT K H p [x, y]) {Q : L2.St → Hp → Prop} (k : Q ((σ.set i (some x)).set j (some y)) H) : gTup K 2 (gCons (gName i) (gCons (gName j) gNil)) (.ref p) σ H Q :=
  ⟨p, [x, y], rfl, h, rfl, x, [y], rfl, y, [], rfl, rfl, k⟩
theorem gt3 {p : Addr} {i j l : Nat} (h : SqT K H p [x, y, z]) {Q : L2.St → Hp → Prop} (k : Q (((σ.set i (some x)).set j (some y)).set l (some z)) H) : gTup K 3 (gCons (gName i) (gCons (gName j) (gCons (gName l) gNil))) (.ref p) σ H Q :=
  ⟨p, [x, y, z], rfl, h, rfl, x, [y, z], rfl, y, [z], rfl, z, [], rfl, rfl, k⟩
end
theorem hu64 {A : Around} {k : Nat} (hr : Room k A) : A.units + 64 < cLine := by
  have := hr.un
  omega
section
variable {K : PySem.W.Frag} {σ : L2.St} {H : Hp} {te : TE} {D : Ends} {tz : TS} {g : TG} {xs : List V}
theorem q_asgG (h : EvU te σ H xs) (k : ∀ p H1, H p = none → Ex H H1 → H1 p = some (.tup xs) → g (.ref p) σ H1 (tz D)) : tSeq (tAsg te g) tz D σ H := h H (Ex.refl H) _ fun p H1 hp e h1 => k p H1 hp e h1
theorem q_asgV {v : V} (h : Ev te σ H v) (k : ∀ H1, Ex H H1 → g v σ H1 (tz D)) : tSeq (tAsg te g) tz D σ H := h H (Ex.refl H) _ fun H1 e => k H1 e
end
/-! ### plain values and their types -/
inductive Pl : V → Prop where
  | non : Pl .non
  | bl (b : Bool) : Pl (.bl b)
  | int (i : Int) : Pl (.int i)
  | str (s : Str) : Pl (.str s)
def tyN : V → String
  | .bl _ => "bool"
  | .int _ => "int"
  | .str _ => "str"
  | _ => "NoneType"
def isInt : V → Bool
  | .int _ => true
  | _ => false
theorem tx_pl {K : PySem.W.Frag} {x : V} (h : Pl x) (H1 : Hp) : TyX K H1 x (.type (tyN x)) := by
  cases h with
  | non => exact .base .non
  | bl b => exact .base (.bl b)
  | int i => exact .base (.int i)
  | str s => exact .base (.str s)
theorem ev_isiP {K : PySem.W.Frag} {σ : L2.St} {H : Hp} {ta : TE} {x : V} {T : String} {b : Bool} (ha : Ev ta σ H x) (hx : Pl x) (hk : kitB (tyN x) T = some b) : Ev (tCB (rIsi K) (tCons ta (tCons (tC (.ty T)) tNil))) σ H (.bl b) :=
  ev_isi ha (tx_pl hx) hk
/-- isinstance(x, int) and not isinstance(x, bool) -/
theorem ev_isInt {K : PySem.W.Frag} {σ : L2.St} {H : Hp} {ta tb : TE} {x : V} (ha : Ev ta σ H x) (hb : Ev tb σ H x) (hx : Pl x) :
    Ev (tAndV (tCB (rIsi K) (tCons ta (tCons (tC (.ty "int")) tNil))) (tNotV (tCB (rIsi K) (tCons tb (tCons (tC (.ty "bool")) tNil))))) σ H (.bl (isInt x)) := by
  cases hx with
  | non => exact ev_is (ev_andV (ev_isiP (b := false) ha .non (by decide +kernel)) fun z => nomatch z) (show V.bl (false && true) = _ from rfl)
  | bl b => exact ev_is (ev_andV (ev_isiP (b := true) ha (.bl b) (by show kitB "bool" "int" = some true; decide +kernel)) fun _ => ev_notV (ev_isiP (b := true) hb (.bl b) (by show kitB "bool" "bool" = some true; decide +kernel))) rfl
  | int i => exact ev_is (ev_andV (ev_isiP (b := true) ha (.int i) (by show kitB "int" "int" = some true; decide +kernel)) fun _ => ev_notV (ev_isiP (b := false) hb (.int i) (by show kitB "int" "bool" = some false; decide +kernel))) rfl
  | str s => exact ev_is (ev_andV (ev_isiP (b := false) ha (.str s) (by show kitB "str" "int" = some false; decide +kernel)) fun z => nomatch z) (show V.bl (false && true) = _ from rfl)

/-! ### the order of tuples that need not be alike behind the first difference -/
section
open PySem.SeqAt PySem.MeetsSeq PySem.MeetsSeq2 PySem.MeetsSeq3
open PySem.AutoSeq1 (wpAny_loadPart')
/-- pairs walked from the left: the first that differ decide; z where none do -/
inductive Lx (A : Around) (s : Shared) (z : Bool) : List (Value × Value) → Bool → Prop
  | nil : Lx A s z [] z
  | eq {y x : Value} {ps : List (Value × Value)} {c : Bool} : EqAt A s y x true → Lx A s z ps c → Lx A s z ((y, x) :: ps) c
  | lt {y x : Value} {ps : List (Value × Value)} {c : Bool} : EqAt A s y x false → Ob.RcOp .Lt A s y x c → Lx A s z ((y, x) :: ps) c
theorem lt_meets (l b : Addr) (us vs : Array Value) (n m : Nat) (dl db : Option Addr) (sl sb : Array (Option Value)) :
    Meets (Builtin.«tuple.__lt__» ⟨[.ref l, .ref b], []⟩)
      (fun A R s => s.heap.get? l = some { cls := .type "tuple", dict := dl, data := .seq us n, slots := sl } ∧ s.heap.get? b = some { cls := .type "tuple", dict := db, data := .seq vs m, slots := sb } ∧
        ∃ c, Lx A.in1 s (decide (us.size < vs.size)) (us.toList.zip vs.toList) c ∧ R (.ok (.ret (.bool c))) s) := by
  refine .of_wp fun prog w A R s h => ?_
  obtain ⟨hp, g, d, tk, os⟩ := s
  obtain ⟨hl, hb, c, hx, h⟩ := h
  have f2 := AutoSeq1.sub_tuple_tuple
  wp_walk using wpAny_loadPart' hl, wpAny_loadPart' hb, wpAny_forIn_list _ (fun ps b s' => b.1 = none ∧ s' = ⟨hp, g, d, tk, os⟩ ∧ ∃ c, Lx A.in1 ⟨hp, g, d, tk, os⟩ (decide (us.size < vs.size)) ps c ∧ R (.ok (.ret (.bool c))) ⟨hp, g, d, tk, os⟩) _
  case turn =>
    rintro ⟨y, x⟩ ps b s' ⟨hb', rfl, c, hz, hR⟩
    cases hz with
    | eq he ht =>
      refine wpAny_bind (he prog w _ _ ?_)
      wp_walk
      exact ⟨rfl, rfl, c, ht, hR⟩
    | lt he hr =>
      refine wpAny_bind (he prog w _ _ ?_)
      have hri := hr prog w
      wp_walk using hri
      exact ⟨_, rfl, hR⟩
  case fin =>
    rintro ⟨b1, b2⟩ s' ⟨hb', rfl, c, hz, hR⟩
    simp only at hb'
    subst hb'
    cases hz
    wp_walk
    exact ⟨_, rfl, by simpa [Builtin.Tuple.tupleCompareSizes] using hR⟩
  case h => exact ⟨rfl, rfl, c, hx, h⟩
theorem lt_tuples {A : Around} {s : Shared} {l b : Addr} {us vs : Array Value} {c : Bool} (hl : s.heap.IsTuple l us) (hb : s.heap.IsTuple b vs) (hu : A.units < cLine) (hx : Lx A.in1 s (decide (us.size < vs.size)) (us.toList.zip vs.toList) c) :
    Ob.RcOp .Lt A s (.ref l) (.ref b) c := by
  intro prog w E Q h
  obtain ⟨⟨k1, dl, da, sl⟩, ho, hc, n, hd⟩ := hl
  obtain ⟨⟨k2, db, da2, sb⟩, ho2, hc2, m, hd2⟩ := hb
  simp only at hc hd hc2 hd2
  subst hc hd hc2 hd2
  exact richCompare_meets_room (op := .Lt) ⟨_, ho, rfl⟩ ⟨_, ho2, rfl⟩ F.slot_tuple_lt F.entry_tuple_lt (F.args_tuple_lt_2 _ _) (lt_meets l b us vs n m dl db sl sb) ⟨ho, ho2, c, hx, ⟨(fun z => nomatch z), h⟩⟩ hu
end
mutual
/-- less, of data -/
def ltD : PyData → PyData → Bool
  | .int a, .int b => decide (a < b)
  | .str x, .str y => decide (x.cps.toList < y.cps.toList)
  | .tuple xs, .tuple ys => ltDs xs ys
  | _, _ => false
def ltDs : List PyData → List PyData → Bool
  | [], [] => false
  | [], _ :: _ => true
  | _ :: _, [] => false
  | x :: xs, y :: ys => if PyData.eqv x y then ltDs xs ys else ltD x y
end
mutual
/-- may be compared by less -/
def ordD : PyData → PyData → Bool
  | .int _, .int _ => true
  | .str _, .str _ => true
  | .tuple xs, .tuple ys => ordDs xs ys
  | _, _ => false
def ordDs : List PyData → List PyData → Bool
  | [], _ => true
  | _ :: _, [] => true
  | x :: xs, y :: ys => if PyData.eqv x y then ordDs xs ys else ordD x y
end
theorem reads_len {h : Heap} : ∀ {ds : List PyData} {us : List Value} {as : List Addr}, ReadsAll h us ds as → us.length = ds.length
  | [], _, _, r => by cases r; rfl
  | _ :: ds, _, _, r => by
    cases r with
    | cons r1 r2 => exact congrArg (· + 1) (reads_len r2)
theorem lt_list {n : Nat} (IH : ∀ (d e : PyData) (A : Around) (s : Shared) (u v : Value) (as bs : List Addr), d.depth ≤ n → Reads s.heap u d as → Reads s.heap v e bs → d.canLay0 = true → e.canLay0 = true → ordD d e = true →
    A.units + d.depth < cLine → Ob.RcOp .Lt A s u v (ltD d e)) (A : Around) (s : Shared) : ∀ (xs ys : List PyData) (us vs : List Value) (as bs : List Addr), PyData.depthAll xs ≤ n → ReadsAll s.heap us xs as → ReadsAll s.heap vs ys bs →
    PyData.canLayAll0 xs = true → PyData.canLayAll0 ys = true → ordDs xs ys = true → A.units + PyData.depthAll xs < cLine → Lx A s (decide (xs.length < ys.length)) (us.zip vs) (ltDs xs ys) := by
  intro xs
  induction xs with
  | nil =>
    intro ys us vs as bs hn r1 r2 c1 c2 ho hu
    cases r1
    cases ys with
    | nil => exact .nil
    | cons y ys =>
      rw [show decide (([] : List PyData).length < (y :: ys).length) = true from decide_eq_true (Nat.zero_lt_succ _)]
      show Lx A s true [] true
      exact .nil
  | cons x xs ih =>
    intro ys us vs as bs hn r1 r2 c1 c2 ho hu
    cases ys with
    | nil =>
      cases r2
      rw [show decide ((x :: xs).length < ([] : List PyData).length) = false from decide_eq_false (Nat.not_lt_zero _), List.zip_nil_right]
      exact .nil
    | cons y ys =>
      have a1 : x.canLay0 = true ∧ PyData.canLayAll0 xs = true := by simpa [PyData.canLayAll0] using c1
      have a2 : y.canLay0 = true ∧ PyData.canLayAll0 ys = true := by simpa [PyData.canLayAll0] using c2
      have hd : A.units + max x.depth (PyData.depthAll xs) < cLine := hu
      have hn' : max x.depth (PyData.depthAll xs) ≤ n := hn
      rw [show decide ((x :: xs).length < (y :: ys).length) = decide (xs.length < ys.length) by simp]
      cases r1 with
      | cons p1 q1 =>
        cases r2 with
        | cons p2 q2 =>
          have he := PySem.SeqAt.eqAt_reads x y A s _ _ _ _ p1 p2 a1.1 a2.1 (by omega)
          by_cases c : PyData.eqv x y = true
          · have o : ordDs xs ys = true := by rw [ordDs, if_pos c] at ho; exact ho
            rw [show ltDs (x :: xs) (y :: ys) = ltDs xs ys by rw [ltDs, if_pos c]]
            rw [c] at he
            exact .eq he (ih ys _ _ _ _ (by omega) q1 q2 a1.2 a2.2 o (by omega))
          · have o : ordD x y = true := by rw [ordDs, if_neg c] at ho; exact ho
            rw [show ltDs (x :: xs) (y :: ys) = ltD x y by rw [ltDs, if_neg c]]
            rw [Bool.not_eq_true] at c
            rw [c] at he
            exact .lt he (IH x y A s _ _ _ _ (by omega) p1 p2 a1.1 a2.1 o (by omega))
theorem lt_reads : ∀ (n : Nat) (d e : PyData) (A : Around) (s : Shared) (u v : Value) (as bs : List Addr), d.depth ≤ n → Reads s.heap u d as → Reads s.heap v e bs → d.canLay0 = true → e.canLay0 = true → ordD d e = true →
    A.units + d.depth < cLine → Ob.RcOp .Lt A s u v (ltD d e) := by
  intro n
  induction n with
  | zero =>
    intro d e A s u v as bs hn r1 r2 c1 c2 ho hu
    cases r1 with
    | int a t =>
      cases r2 with
      | int b t' => rw [ltD]; exact Ob.RcOp.lt_int _ _ _ _
      | _ => simp [ordD] at ho
    | str a t =>
      cases r2 with
      | str b t' => rw [ltD]; exact fun prog w E Q h => lt_str h
      | _ => simp [ordD] at ho
    | tuple => simp [PyData.depth] at hn
    | _ => simp [ordD] at ho
  | succ n ih =>
    intro d e A s u v as bs hn r1 r2 c1 c2 ho hu
    cases r1 with
    | int a t =>
      cases r2 with
      | int b t' => rw [ltD]; exact Ob.RcOp.lt_int _ _ _ _
      | _ => simp [ordD] at ho
    | str a t =>
      cases r2 with
      | str b t' => rw [ltD]; exact fun prog w E Q h => lt_str h
      | _ => simp [ordD] at ho
    | tuple h1 h2 h3 h4 =>
      cases r2 with
      | tuple k1 k2 k3 k4 =>
        rename_i xs _ _ _ _ _ ys
        simp only [PyData.depth] at hn hu
        have l1 := reads_len h4
        have l2 := reads_len k4
        rw [ltD]
        refine lt_tuples ⟨_, h1, h2, _, h3⟩ ⟨_, k1, k2, _, k3⟩ (by omega) ?_
        rw [← Array.length_toList, ← Array.length_toList, l1, l2]
        exact lt_list ih A.in1 s _ _ _ _ _ _ (by omega) h4 k4 (by simpa [PyData.canLay0] using c1) (by simpa [PyData.canLay0] using c2) (by simpa [ordD] using ho) (by show A.units + 1 + _ < _; omega)
      | _ => simp [ordD] at ho
    | _ => simp [ordD] at ho
def rLtD (K : PySem.W.Frag) : R2 := fun x y H Q => ∃ d e, Dp K H x d ∧ Dp K H y e ∧ d.canLay0 = true ∧ e.canLay0 = true ∧ ordD d e = true ∧ d.depth ≤ 60 ∧ Q (.bl (ltD d e)) H
theorem op_ltD {X : Cx} (hu : X.A.units + 64 < cLine) : OpR X (compareOp .Lt) (rLtD X.K) := by
  intro pins s σ H x y v u Q I rx ry h
  obtain ⟨d, e, hd, he, c1, c2, o, dp, q⟩ := h
  obtain ⟨as, r1⟩ := Dp.reads I d x v hd rx
  obtain ⟨bs, r2⟩ := Dp.reads I e y u he ry
  exact lt_reads _ d e X.A s v u as bs (Nat.le_refl _) r1 r2 c1 c2 o (by omega) X.prog X.w _ _ ⟨.bl _, H, I, rfl, q⟩

/-! ### parts that give data -/
section
variable {K : PySem.W.Frag}
mutual
theorem ex_dp {H H' : Hp} (e : Ex H H') : ∀ {v : V} {d : PyData}, Dp K H v d → Dp K H' v d
  | _, _, .non => .non
  | _, _, .bl b => .bl b
  | _, _, .int i => .int i
  | _, _, .str x => .str x
  | _, _, .lst h a => .lst (ex_l e h) (ex_dps e a)
  | _, _, .tup h a => .tup (ex_t e h) (ex_dps e a)
theorem ex_dps {H H' : Hp} (e : Ex H H') : ∀ {vs : List V} {ds : List PyData}, DpAll K H vs ds → DpAll K H' vs ds
  | _, _, .nil => .nil
  | _, _, .cons h t => .cons (ex_dp e h) (ex_dps e t)
end
def EvD (K : PySem.W.Frag) (te : TE) (σ : L2.St) (H : Hp) (d : PyData) : Prop := ∀ H1, Ex H H1 → ∀ Q : VK, (∀ v H2, Ex H1 H2 → Dp K H2 v d → Q v H2) → te σ H1 Q
/-- a new list, a new tuple of data -/
def EvLD (K : PySem.W.Frag) (te : TE) (σ : L2.St) (H : Hp) (ds : List PyData) : Prop := ∀ H1, Ex H H1 → ∀ Q : VK, (∀ p H2 ys, H1 p = none → Ex H1 H2 → H2 p = some (.lst ys) → DpAll K H2 ys ds → Q (.ref p) H2) → te σ H1 Q
def EvUD (K : PySem.W.Frag) (te : TE) (σ : L2.St) (H : Hp) (ds : List PyData) : Prop := ∀ H1, Ex H H1 → ∀ Q : VK, (∀ p H2 ys, H1 p = none → Ex H1 H2 → H2 p = some (.tup ys) → DpAll K H2 ys ds → Q (.ref p) H2) → te σ H1 Q
def EvAD (K : PySem.W.Frag) (ta : TA) (σ : L2.St) (H : Hp) (ds : List PyData) : Prop := ∀ H1, Ex H H1 → ∀ Q : List V → Hp → Prop, (∀ vs H2, Ex H1 H2 → DpAll K H2 vs ds → Q vs H2) → ta σ H1 Q
variable {σ : L2.St} {H H' : Hp} {ta tb te : TE} {tr : TA} {x y z v : V} {d e : PyData} {ds es : List PyData}
theorem ed_val (h : Ev te σ H v) (hd : Dp K H v d) : EvD K te σ H d := fun H1 e Q q => h H1 e _ fun H2 e2 => q v H2 e2 (ex_dp (e.trans e2) hd)
theorem ed_tupU (h : EvUD K te σ H ds) : EvD K te σ H (.tuple ds) := fun H1 e Q q => h H1 e _ fun p H2 ys _ e2 h2 hd => q _ H2 e2 (.tup (st_of h2) hd)
theorem ed_lst (h : EvLD K te σ H ds) : EvD K te σ H (.list ds) := fun H1 e Q q => h H1 e _ fun p H2 ys _ e2 h2 hd => q _ H2 e2 (.lst (sq_of h2) hd)
theorem ad_nil : EvAD K tNil σ H [] := fun H1 _ _ q => q [] H1 (Ex.refl H1) .nil
theorem ad_cons (h : EvD K te σ H d) (hr : EvAD K tr σ H ds) : EvAD K (tCons te tr) σ H (d :: ds) := fun H1 e Q q =>
  h H1 e _ fun v H2 e2 hd => hr H2 (e.trans e2) _ fun vs H3 e3 hds => q (v :: vs) H3 (e2.trans e3) (.cons (ex_dp e3 hd) hds)
theorem dps_len : ∀ {vs : List V} {ds : List PyData} {H : Hp}, DpAll K H vs ds → vs.length = ds.length
  | _, _, _, .nil => rfl
  | _, _, _, .cons _ t => congrArg (· + 1) (dps_len t)
theorem ud_tup (h : EvAD K tr σ H ds) (hl : ds.length ≤ 100000) : EvUD K (tTup tr) σ H ds := fun H1 e Q q =>
  h H1 e _ fun vs H2 e2 hd => ⟨sz_of (by rw [dps_len hd]; exact hl), fun p hp => q p _ vs (fresh_back e2 hp) (e2.trans (Ex.new hp)) upd_same (ex_dps (Ex.new hp) hd)⟩
theorem ld_lst (h : EvAD K tr σ H ds) (hl : ds.length ≤ 100000) : EvLD K (tLst tr) σ H ds := fun H1 e Q q =>
  h H1 e _ fun vs H2 e2 hd => ⟨sz_of (by rw [dps_len hd]; exact hl), fun p hp => q p _ vs (fresh_back e2 hp) (e2.trans (Ex.new hp)) upd_same (ex_dps (Ex.new hp) hd)⟩
def SpD (K : PySem.W.Frag) (sp : Sp) (vs : List V) (H : Hp) (d : PyData) : Prop := ∀ H1, Ex H H1 → ∀ Q : VK, (∀ v H2, Ex H1 H2 → Dp K H2 v d → Q v H2) → ∀ E : XK, sp vs H1 Q E
def SpUD (K : PySem.W.Frag) (sp : Sp) (vs : List V) (H : Hp) (ds : List PyData) : Prop := ∀ H1, Ex H H1 → ∀ Q : VK, (∀ p H2 ys, H1 p = none → Ex H1 H2 → H2 p = some (.tup ys) → DpAll K H2 ys ds → Q (.ref p) H2) → ∀ E : XK, sp vs H1 Q E
theorem ud_call {sp : Sp} {dvs vs : List V} {E : XK} {ta : TA} (h : EvA ta σ H vs) (hs : SpUD K sp (vs ++ dvs) H ds) : EvUD K (tCall sp dvs E ta) σ H ds := fun H1 e Q q =>
  h H1 e _ fun H2 e2 => hs H2 (e.trans e2) Q (fun p H3 ys hp e3 h3 hd => q p H3 ys (fresh_back e2 hp) (e2.trans e3) h3 hd) E
/-- == , != , < of data -/
theorem ev_eqD (ha : EvD K ta σ H d) (hb : EvD K tb σ H e) (s1 : SeqAt.shaped d = true) (s2 : SeqAt.shaped e = true) : Ev (tOp (rEqD K) ta tb) σ H (.bl (PyData.eqv d e)) := fun H1 ex Q q =>
  ha H1 ex _ fun x H2 e2 h2 => hb H2 (ex.trans e2) _ fun y H3 e3 h3 => ⟨d, e, ex_dp e3 h2, h3, s1, s2, q H3 (e2.trans e3)⟩
theorem ev_neD (ha : EvD K ta σ H d) (hb : EvD K tb σ H e) (s1 : SeqAt.shaped d = true) (s2 : SeqAt.shaped e = true) : Ev (tOp (rNeD K) ta tb) σ H (.bl (!PyData.eqv d e)) := fun H1 ex Q q =>
  ha H1 ex _ fun x H2 e2 h2 => hb H2 (ex.trans e2) _ fun y H3 e3 h3 => ⟨d, e, ex_dp e3 h2, h3, s1, s2, q H3 (e2.trans e3)⟩
theorem ev_ltD (ha : EvD K ta σ H d) (hb : EvD K tb σ H e) (s1 : SeqAt.shaped d = true) (s2 : SeqAt.shaped e = true) (o : ordD d e = true) (dp : d.depth ≤ 60) : Ev (tOp (rLtD K) ta tb) σ H (.bl (ltD d e)) := fun H1 ex Q q =>
  ha H1 ex _ fun x H2 e2 h2 => hb H2 (ex.trans e2) _ fun y H3 e3 h3 => ⟨d, e, ex_dp e3 h2, h3, SeqAt.canLay_of_shaped s1, SeqAt.canLay_of_shaped s2, o, dp, q H3 (e2.trans e3)⟩
/-- tuple(a new list) -/
theorem ud_tuple {tl : TE} (h : EvLD K tl σ H ds) : EvUD K (tCB (fun xs H Q => ∃ p ys, xs = [.ref p] ∧ ((SqL K H p ys ∧ ∀ l, H l = none → Q (.ref l) (upd H l (.tup ys))) ∨ (SqT K H p ys ∧ Q (.ref p) H))) (tCons tl tNil)) σ H ds := fun H1 e Q q =>
  h H1 e _ fun p H2 ys _ e2 h2 hd => ⟨p, ys, rfl, .inl ⟨sq_of h2, fun l hl => q l _ ys (fresh_back e2 hl) (e2.trans (Ex.new hl)) upd_same (ex_dps (Ex.new hl) hd)⟩⟩
mutual
/-- no list within -/
def noL : PyData → Bool
  | .list _ => false
  | .tuple xs => noLs xs
  | .dict _ => false
  | .none | .bool _ | .int _ | .str _ => true
def noLs : List PyData → Bool
  | [] => true
  | x :: xs => noL x && noLs xs
end
mutual
theorem dp_upd {H : Hp} {D : Addr} {ys zs : List V} (hD : H D = some (.lst ys)) : ∀ {v : V} {d : PyData}, noL d = true → Dp K H v d → Dp K (upd H D (.lst zs)) v d
  | _, _, _, .non => .non
  | _, _, _, .bl b => .bl b
  | _, _, _, .int i => .int i
  | _, _, _, .str x => .str x
  | _, _, n, .lst h a => by simp [noL] at n
  | _, _, n, .tup h a => by
    refine .tup ?_ (dps_upd hD (by simpa [noL] using n) a)
    rcases h with (h | ⟨o, h⟩) | h
    · exact .inl (.inl (by rw [upd_ne (by intro z; rw [z, hD] at h; cases h)]; exact h))
    · exact .inl (.inr ⟨o, by rw [upd_ne (by intro z; rw [z, hD] at h; cases h)]; exact h⟩)
    · exact .inr h
theorem dps_upd {H : Hp} {D : Addr} {ys zs : List V} (hD : H D = some (.lst ys)) : ∀ {vs : List V} {ds : List PyData}, noLs ds = true → DpAll K H vs ds → DpAll K (upd H D (.lst zs)) vs ds
  | _, _, _, .nil => .nil
  | _, _, n, .cons h t => by
    have n' : (noL _ && noLs _) = true := n
    rw [Bool.and_eq_true] at n'
    exact .cons (dp_upd hD n'.1 h) (dps_upd hD n'.2 t)
end
theorem noLs_map {f : Nat → PyData} (h : ∀ i, noL (f i) = true) : ∀ l : List Nat, noLs (l.map f) = true
  | [] => rfl
  | i :: l => by
    show (noL (f i) && noLs (l.map f)) = true
    rw [h i, noLs_map h l]
    rfl
/-- [f(x) for x in xs] -/
theorem dps_snoc : ∀ {vs : List V} {ds : List PyData} {H : Hp} {v : V} {d : PyData}, DpAll K H vs ds → Dp K H v d → DpAll K H (vs ++ [v]) (ds ++ [d])
  | _, _, _, _, _, .nil, h => .cons h .nil
  | _, _, _, _, _, .cons a t, h => .cons a (dps_snoc t h)
theorem ld_lcL {a : Addr} {xs : List V} {tl : TE} {j : Nat} {vs : List Nat} (f : Nat → PyData) (h : Ev tl σ H (.ref a)) (hx : SqL K H a xs) (hz : xs.length ≤ 40000) (hn : ∀ i, noL (f i) = true) (hw : ∀ x, wipe ((wipe σ vs).set j (some x)) vs = wipe σ vs)
    (he : ∀ (i : Nat) (x : V) H1, Ex H H1 → xs[i]? = some x → EvD K te ((wipe σ vs).set j (some x)) H1 (f i)) :
    EvLD K (tLc (iList K tl) (gName j) tYes te vs) σ H ((List.range xs.length).map f) := fun H0 e0 Q q => h H0 e0 _ fun H1 e1 => ⟨a, rfl, ⟨xs, ex_l (e0.trans e1) hx⟩, fun D hD =>
  lc_list (xs := xs) (fun i H' => H1 D = none ∧ Ex H1 H' ∧ ∃ ys, H' D = some (.lst ys) ∧ DpAll K H' ys ((List.range i).map f)) ⟨hD, Ex.new hD, [], upd_same, .nil⟩ (fun i H' _ p => ex_l ((e0.trans e1).trans p.2.1) hx)
    (fun i x H' hi p => by
      obtain ⟨p1, p2, ys, p3, p4⟩ := p
      refine ⟨hw x, ?_⟩
      show te ((wipe σ vs).set j (some x)) H' fun y H4 => ∃ acc, H4 D = some (.lst acc) ∧ acc.length < sizeLine ∧ _
      refine he i x H' ((e0.trans e1).trans p2) hi H' (Ex.refl H') _ fun y H4 e4 hy => ⟨ys, e4 _ _ p3, sz_lt ?_, p1, Ex.mut (p2.trans e4) p1, ys ++ [y], upd_same, ?_⟩
      · have := dps_len p4
        rw [List.length_map, List.length_range] at this
        have := (List.getElem?_eq_some_iff.mp hi).1
        omega
      · rw [List.range_succ, List.map_append]
        exact dps_snoc (dps_upd (e4 _ _ p3) (noLs_map hn _) (ex_dps e4 p4)) (dp_upd (e4 _ _ p3) (hn i) hy))
    (fun H' p => by
      obtain ⟨p1, p2, ys, p3, p4⟩ := p
      exact q D H' ys (fresh_back e1 p1) (e1.trans p2) p3 p4)⟩
end

/-! ### a call of a local that holds a def -/
def tCallH (P : Program) (w : World) (K : PySem.W.Frag) (mg : Str → Option Value) (base : Heap) (i k : Nat) (t : TA) : TE := fun σ H Q => ∃ f sp, σ[i]? = some (some (.ref f)) ∧ L2.Held P w K mg base k f sp ∧ t σ H fun vs H1 => sp vs H1 Q (fun _ _ _ => False)
theorem pe_callH {X : Cx} {x : Str} {p pos : Pos} {e : Expr} {es : List Expr} {t : TA} {i k : Nat} (hr : Room k X.A) (hN : X.N[i]? = some x) (hv : Vis X.env.scope x) (ha : PA X (e :: es) t)
    (hdb : (x == ("__debug__" : Str)) = false := by decide) (hcd : (x == ("__classdict__" : Str)) = false := by decide)
    (he : starEach (e :: es) X.env = (false, eval e X.env) :: starEach es X.env := by rfl) (hpl : (backTo pos (starEach es X.env)).any (·.1) = false := by rfl) : PE X (.Call (.Name x p) (e :: es) [] pos) (tCallH X.prog X.w X.K X.mg X.base i k t) := by
  refine ⟨fun pins s σ H Q I h => ?_⟩
  obtain ⟨f, sp, hs, hH, ht⟩ := h
  refine (L2.pe_callA (S := fun g => if g = f then some sp else none) (fun g sq z => ?_) hr hN hv ha hdb hcd he hpl).run pins s σ H Q I ⟨f, sp, hs, if_pos rfl, ht⟩
  by_cases e : g = f
  · rw [if_pos e] at z
    cases z
    rw [e]
    exact hH
  · rw [if_neg e] at z
    cases z
theorem held_of {P : Program} {w : World} {K : PySem.W.Frag} {mg : Str → Option Value} {base : Heap} {j k : Nat} {x : Str} {sp : Sp} {f : Addr} (c : C8.Cal P w K mg base j x sp []) (m : mg x = some (.ref f)) (h : j ≤ k) : L2.Held P w K mg base k f sp := by
  obtain ⟨f', fd, ps, ds, F, hm, kp, b, v⟩ := c.ex
  rw [m] at hm
  cases hm
  cases v
  exact ⟨fd, ps, F.mono h, kp, b⟩
/-- a def of two values that gives a value -/
def spBin (pre : V → V → Prop) (op : V → V → V) : Sp := fun vs H Q _ => ∃ x y : V, vs = [x, y] ∧ pre x y ∧ ∀ H', Ex H H' → Q (op x y) H'
theorem ec_held {P : Program} {w : World} {K : PySem.W.Frag} {mg : Str → Option Value} {base : Heap} {i k : Nat} {σ : L2.St} {H : Hp} {ta tb : TE} {f : Addr} {pre : V → V → Prop} {op : V → V → V} {x y : V} (hσ : σ[i]? = some (some (.ref f))) (h : L2.Held P w K mg base k f (spBin pre op)) (hp : pre x y) (ha : Ev ta σ H x) (hb : Ev tb σ H y) :
    Ev (tCallH P w K mg base i k (tCons ta (tCons tb tNil))) σ H (op x y) := fun H1 e Q q => ⟨f, _, hσ, h, ha H1 e _ fun H2 e2 => hb H2 (e.trans e2) _ fun H3 e3 => ⟨x, y, rfl, hp, fun H' e' => q H' ((e2.trans e3).trans e')⟩⟩

/-! ### classes of the program -/
def clsAt (K : PySem.W.Frag) (x : Str) : Addr := match PySem.W.nsIn K mainGlobals x with
  | some (some (.ref a)) => a
  | _ => 0
def NoAts (K : PySem.W.Frag) (C : Addr) : List Str → Prop
  | [] => True
  | f :: r => NoAttr K C f ∧ NoAts K C r
/-- a class by its name: plain, and none of these names stands in it -/
structure ClsD (K : PySem.W.Frag) (mg : Str → Option Value) (x : Str) (fs : List Str) : Prop where
  cl : Cls K (clsAt K x)
  at_ : mg x = some (.ref (clsAt K x))
  mks : PySem.W.makesIn K (clsAt K x) = true
  kc : PySem.W.keepIn K (.ref (clsAt K x)) = true
  na : NoAts K (clsAt K x) fs
/-- a method's def -/
def MetD (K : PySem.W.Frag) (x m qual : Str) (st : Stmt) (ps : List Str) : Prop := ∃ f fd, Meth K (clsAt K x) m f ∧ C8.Fun K m qual st f fd ∧ Binds K fd ps []
/-- a property's getter -/
def PrpD (K : PySem.W.Frag) (x m qual : Str) (st : Stmt) (ps : List Str) : Prop := ∃ p f fd, PropOf K (clsAt K x) m p f ∧ C8.Fun K m qual st f fd ∧ Binds K fd ps []
def Prp (P : Program) (w : World) (K : PySem.W.Frag) (mg : Str → Option Value) (base : Heap) (k : Nat) (C : Addr) (m : Str) (sp : Sp) : Prop := ∃ p f fd ps, Cls K C ∧ PropOf K C m p f ∧ FnOk P w K mg base C8.CX0 k f fd ps sp ∧ Binds K fd ps []
section
variable {P : Program} {w : World} {K : PySem.W.Frag} {mg : Str → Option Value} {base : Heap} {x m qual : Str} {st : Stmt} {ps N fs : List Str} {k : Nat} {sp : Sp}
theorem clsD_mk {C : Addr} (h : PySem.W.nsIn K mainGlobals x = some (some (.ref C))) (hm : mg x = some (.ref C)) (pg : PySem.W.plainGet K C Str.empty = true) (hd : PySem.W.hasDictIn K C = true) (po : PySem.W.plainOver K C = true) (sa : PySem.W.findIn K (.ref C) "__setattr__" = some (some (.builtin "object.__setattr__"))) (mk : PySem.W.makesIn K C = true) (kc : PySem.W.keepIn K (.ref C) = true) (na : NoAts K C fs) : ClsD K mg x fs := by
  have e : clsAt K x = C := by unfold clsAt; rw [h]
  exact ⟨by rw [e]; exact ⟨pg, hd, po, sa⟩, by rw [e]; exact hm, by rw [e]; exact mk, by rw [e]; exact kc, by rw [e]; exact na⟩
theorem metD_mk {C f : Addr} {fd : FuncData} (h : PySem.W.nsIn K mainGlobals x = some (some (.ref C))) (a : PySem.W.findIn K (.ref C) m = some (some (.ref f))) (i : PySem.W.isFn K (.ref f) = true) (kp : PySem.W.keepIn K (.ref f) = true) (F : C8.Fun K m qual st f fd) (b : Binds K fd ps []) : MetD K x m qual st ps := by
  have e : clsAt K x = C := by unfold clsAt; rw [h]
  exact ⟨f, fd, by rw [e]; exact ⟨a, i, kp⟩, F, b⟩
theorem prpD_mk {C p f : Addr} {fd : FuncData} {r : List Value} (h : PySem.W.nsIn K mainGlobals x = some (some (.ref C))) (a : PySem.W.findIn K (.ref C) m = some (some (.ref p))) (g : PySem.W.specialIn K (.ref p) "__get__" = some (some (.builtin "property.__get__"))) (tk : PySem.W.takesIn K (.ref p) = some true) (rc : PySem.W.recIn K p "property" = some (.ref f :: r)) (F : C8.Fun K m qual st f fd) (b : Binds K fd ps []) : PrpD K x m qual st ps := by
  have e : clsAt K x = C := by unfold clsAt; rw [h]
  exact ⟨p, f, fd, by rw [e]; exact ⟨a, g, tk, r, rc⟩, F, b⟩
theorem met_of (C : ClsD K mg x fs) (D : MetD K x m qual st ps) (S : FnScope N ps (C8.fnScope st)) (len : ∀ vs H Q E, sp vs H Q E → vs.length = ps.length)
    (hbody : ∀ (f : Addr) (cdv : Value) (A : Around) (outer : List Env) (s : Shared) (H : Hp) (vs : List V) (Q : VK) (E : XK), Room k (A.deeper (envOfC qual (C8.fnScope st) s.heap.objs.size f cdv)) → sp vs H Q E →
      ∃ t, PSs (cxOf C8.CX0 P w K mg base N qual (C8.fnScope st) f cdv A outer s H E).nox (C8.fnBody st) t ∧ t { nx := fun _ H' => Q .non H', rt := Q } (start N vs) H) : C8.Met P w K mg base (k + 1) (clsAt K x) m sp [] := by
  obtain ⟨f, fd, M, F, b⟩ := D
  exact C8.met0 C.cl M F b S len (hbody f)
theorem prp_of (C : ClsD K mg x fs) (D : PrpD K x m qual st ps) (S : FnScope N ps (C8.fnScope st)) (len : ∀ vs H Q E, sp vs H Q E → vs.length = ps.length)
    (hbody : ∀ (f : Addr) (cdv : Value) (A : Around) (outer : List Env) (s : Shared) (H : Hp) (vs : List V) (Q : VK) (E : XK), Room k (A.deeper (envOfC qual (C8.fnScope st) s.heap.objs.size f cdv)) → sp vs H Q E →
      ∃ t, PSs (cxOf C8.CX0 P w K mg base N qual (C8.fnScope st) f cdv A outer s H E).nox (C8.fnBody st) t ∧ t { nx := fun _ H' => Q .non H', rt := Q } (start N vs) H) : Prp P w K mg base (k + 1) (clsAt K x) m sp := by
  obtain ⟨p, f, fd, M, F, b⟩ := D
  exact ⟨p, f, fd, ps, C.cl, M, C8.fn0 F S len (hbody f), b⟩
theorem mak_of (C : ClsD K mg x fs) (D : MetD K x "__init__" qual st ps) (S : FnScope N ps (C8.fnScope st)) (len : ∀ vs H Q E, sp vs H Q E → vs.length = ps.length)
    (hbody : ∀ (f : Addr) (cdv : Value) (A : Around) (outer : List Env) (s : Shared) (H : Hp) (vs : List V) (Q : VK) (E : XK), Room k (A.deeper (envOfC qual (C8.fnScope st) s.heap.objs.size f cdv)) → sp vs H Q E →
      ∃ t, PSs (cxOf C8.CX0 P w K mg base N qual (C8.fnScope st) f cdv A outer s H E).nox (C8.fnBody st) t ∧ t { nx := fun _ H' => Q .non H', rt := Q } (start N vs) H) : C8.Mak P w K mg base (k + 1) x (clsAt K x) sp [] := by
  obtain ⟨f, fd, M, F, b⟩ := D
  exact C8.mak0 ⟨C.mks, M.at_, M.fn, C.kc⟩ C.at_ F b .nil S len (hbody f)
end
section
variable {X : Cx} {k j : Nat} {C : Addr} {m : Str} {sp : Sp} {e : Expr} {pos : Pos} {ta : TE}
theorem pe_pr (c : Prp X.prog X.w X.K X.mg X.base k C m sp) (hr : Room j X.A) (hk : k + 1 ≤ j) (he : PE X e ta) (hab : attributeBase e m X.env (eval e X.env) = eval e X.env) : PE X (.Attribute e m pos) (tProp C sp [] C8.E0 ta) := by
  obtain ⟨p, f, fd, ps, hc, hp, F, b⟩ := c
  exact pe_prop he hc hp F (hr.mono hk) b .nil C8.pass0 hab
end

/-! ### x == y by an own __eq__, whatever it answers; isinstance of an own class -/
def rEqOwn (C : Addr) (sp : Sp) : R2 := fun x y H Q => ∃ a dx fs, x = .ref a ∧ H a = some (.ins C dx fs) ∧ ((∃ b dy gs, y = .ref b ∧ H b = some (.ins C dy gs)) ∨ ∃ i, y = .int i) ∧ sp [x, y] H (fun v H' => (∃ b, v = .bl b) ∧ Q v H') C8.E0
theorem op_eqOwn {X : Cx} {k j : Nat} {C : Addr} {sp : Sp} (c : C8.Met X.prog X.w X.K X.mg X.base k C "__eq__" sp []) (hr : Room j X.A) (hk : k ≤ j) (ni : PySem.W.notFirst X.K C (.type "int") = true) : OpR X (compareOp .Eq) (rEqOwn C sp) := by
  intro pins s σ H x y v u Q I rx ry hq
  obtain ⟨a, dx, fs, rfl, ha, hy, h⟩ := hq
  obtain ⟨f, fd, ps, ds, hc, hm, F, hb, hd⟩ := c.ex
  cases hd
  cases rx
  show wpAny (model X.prog X.w) X.A (richCompare .Eq (.ref a) u) (EP X pins σ Q) X.xe s
  obtain ⟨mA, J, _⟩ := ins_get I.hok ha
  obtain ⟨od, J, _⟩ := J.look
  obtain ⟨m, hF⟩ := I.fr
  have r2 : Vals [V.ref a, y] [Value.ref a, u] := .cons rfl (.cons ry .nil)
  have e0 : Env0 X.prog X.w X.K X.mg X.base X.A X.stack s H := I.env0
  have hl := F.len _ _ _ _ h
  have run : wpAny (model X.prog X.w) X.A (PySem.call (.ref f) [.ref a, u]) (PySem.W.CmpBack (EP X pins σ Q)) X.xe s := by
    refine wpAny_call (codeAny_mono (F.run X.A X.stack s H ⟨[.ref a, u], []⟩ [.ref a, u] [.ref a, y] _ C8.E0 (hr.mono hk) e0 (by
      have := hb s [.ref a, u] I.kIn (by simpa using hl)
      simpa using this) r2 h) fun r s' hq => ?_)
    cases r with
    | error e => exact False.elim hq
    | ok fl =>
      cases fl with
      | ret w =>
        obtain ⟨z, H', I', rz, ⟨b, ez⟩, qz⟩ := I.after hq
        subst ez
        cases rz
        exact ⟨.bl b, H', I', rfl, qz⟩
      | next => exact False.elim hq
      | brk => exact False.elim hq
      | cont => exact False.elim hq
  rcases hy with ⟨b, dy, gs, rfl, hb2⟩ | ⟨i, rfl⟩
  · cases ry
    obtain ⟨mB, J', _⟩ := ins_get I.hok hb2
    obtain ⟨od', J', _⟩ := J'.look
    exact PySem.W.cmp_K (op := .Eq) (tb := .ref C) hr.units0 hF I.ok.mod.kin J J'.type (by simp [PySem.W.notFirst]) hm.at_ hm.fn run
  · obtain ⟨t, rfl⟩ := ry
    exact PySem.W.cmp_K (op := .Eq) (tb := .type "int") hr.units0 hF I.ok.mod.kin J (.of_pure rfl) ni hm.at_ hm.fn run
/-- isinstance(x, C): an own instance, or an int -/
theorem call_isOwn {X : Cx} {C : Addr} (c : C8.InsC X.K C) (ki : PySem.W.kitOne X.K (.type "int") (.ref C) = some false) : CallR X (.builtin "isinstance") (fun xs H Q => ∃ x, xs = [x, .ref C] ∧ ((∃ a dx fs, x = .ref a ∧ H a = some (.ins C dx fs) ∧ Q (.bl true) H) ∨ ∃ i, x = .int i ∧ Q (.bl false) H)) := by
  intro pins s σ H xs us Q I r h
  obtain ⟨x, rfl, h⟩ := h
  obtain ⟨u, w', rfl, ru, rw'⟩ := vals2 r
  cases rw'
  rcases h with ⟨a, dx, fs, rfl, ha, q⟩ | ⟨i, rfl, q⟩
  · exact isinst_ok I ru (TyOf.ins ha c.cl c.ha c.hn c.htk c.hm) c.me fun tk => ⟨.bl true, H, I.tok _, rfl, q⟩
  · exact isinst_ok I ru (TyOf.int i) ki fun tk => ⟨.bl false, H, I.tok _, rfl, q⟩
/-- what == and isinstance ask of an own class, by its name -/
structure OwnI (K : PySem.W.Frag) (x : Str) : Prop where
  ins : C8.InsC K (clsAt K x)
  ki : PySem.W.kitOne K (.type "int") (.ref (clsAt K x)) = some false
  ni : PySem.W.notFirst K (clsAt K x) (.type "int") = true
theorem ownI_mk {K : PySem.W.Frag} {x : Str} {C : Addr} (h : PySem.W.nsIn K mainGlobals x = some (some (.ref C))) (cl : Cls K (clsAt K x)) (ha : PySem.W.findIn K (.ref C) "__class__" = some (some (.builtin "object.__class__"))) (hn : PySem.W.specialIn K (.builtin "object.__class__") "__get__" = some (some (.builtin "getset_descriptor.__get__"))) (ht : PySem.W.takesIn K (.builtin "object.__class__") = some true) (hm : PySem.W.mroIn K C (.type "object") = some true)
    (me : PySem.W.kitOne K (.ref C) (.ref C) = some true) (ki : PySem.W.kitOne K (.type "int") (.ref C) = some false) (ni : PySem.W.notFirst K C (.type "int") = true) : OwnI K x := by
  have e : clsAt K x = C := by unfold clsAt; rw [h]
  rw [← e] at ha hm me ki ni
  exact ⟨⟨cl, ha, hn, ht, hm, me⟩, ki, ni⟩
theorem gcls {K : PySem.W.Frag} {mg : Str → Option Value} {x : Str} {fs : List Str} (c : ClsD K mg x fs) : ∃ u, mg x = some u ∧ RelV (.ref (clsAt K x)) u := ⟨_, c.at_, rfl⟩

/-! ### how long a text of data can be -/
theorem app_len (x y : Str) : (x ++ y).length = x.length + y.length := PySem.strLen_append x y
theorem textFrom_le : ∀ (ts : List Str) (k : Nat) (acc : Str), (textFrom k acc ts).length ≤ acc.length + (ts.map fun t => t.length + 2).sum
  | [], k, acc => Nat.le_refl _
  | t :: r, k, acc => by
    rw [textFrom]
    refine Nat.le_trans (textFrom_le r _ _) ?_
    rw [List.map_cons, List.sum_cons]
    split
    · rw [app_len, app_len, show (", " : Str).length = 2 from rfl]; omega
    · rw [app_len, app_len, show (Str.ofString "").length = 0 from rfl]; omega
theorem listText_le (ts : List Str) : (listText ts).length ≤ 2 + (ts.map fun t => t.length + 2).sum := by
  unfold listText
  rw [app_len]
  have := textFrom_le ts 0 "["
  rw [show ("[" : Str).length = 1 from rfl] at this
  rw [show ("]" : Str).length = 1 from rfl]
  omega
theorem join_le : ∀ ts : List Str, (Str.join ", " ts).length ≤ (ts.map fun t => t.length + 2).sum
  | [] => Nat.zero_le _
  | [x] => by show x.length ≤ _; rw [List.map_cons, List.sum_cons]; omega
  | x :: y :: r => by
    have ih := join_le (y :: r)
    have e : Str.join ", " (x :: y :: r) = x ++ ", " ++ Str.join ", " (y :: r) := rfl
    rw [e, app_len, app_len, List.map_cons, List.sum_cons, show (", " : Str).length = 2 from rfl]
    omega
theorem tupleText_le (ts : List Str) : (tupleText ts).length ≤ 4 + (ts.map fun t => t.length + 2).sum := by
  unfold tupleText
  rw [app_len, app_len]
  have := join_le ts
  rw [show ("(" : Str).length = 1 from rfl]
  split
  · rw [show ((",)" : String) : Str).length = 2 from rfl]; omega
  · rw [show ((")" : String) : Str).length = 1 from rfl]; omega
mutual
/-- a bound of its text -/
def shB : PyData → Nat
  | .str x => 10 * x.length + 2
  | .list xs => 4 + shBs xs
  | .tuple xs => 4 + shBs xs
  | .none | .bool _ | .int _ | .dict _ => 2000
def shBs : List PyData → Nat
  | [] => 0
  | x :: xs => shB x + 2 + shBs xs
/-- may be shown -/
def shOk : PyData → Bool
  | .str x => PyData.strOk x
  | .int i => decide (i.natAbs.log2 < 1920)
  | .list xs => shOks xs
  | .tuple xs => shOks xs
  | .none | .bool _ => true
  | .dict _ => false
def shOks : List PyData → Bool
  | [] => true
  | x :: xs => shOk x && shOks xs
end
mutual
theorem shown_le : ∀ d : PyData, shOk d = true → d.shown.length ≤ shB d ∧ d.showable = true ∧ d.hasDict = false
  | .none, _ => ⟨by show 4 ≤ 2000; decide, rfl, rfl⟩
  | .bool b, _ => ⟨by cases b <;> (show _ ≤ 2000; decide), rfl, rfl⟩
  | .int i, h => by
    have hl : i.natAbs.log2 < 1920 := of_decide_eq_true h
    refine ⟨?_, decide_eq_true hl, rfl⟩
    have e := int_text_length_le (k := 1920) (by decide) hl
    show (Str.ofString (toString i)).length ≤ 2000
    rw [PySem.ofString_length]
    omega
  | .str x, h => by
    refine ⟨?_, rfl, rfl⟩
    show (reprText x).length ≤ 10 * x.length + 2
    refine StrLaws.reprText_len x fun c hc => ?_
    have h' : x.cps.all (· < 0x110000) = true := h
    rw [Array.all_eq_true'] at h'
    have := of_decide_eq_true (h' c (by simpa using hc))
    exact Nat.lt_of_lt_of_le this (by decide)
  | .list xs, h => by
    obtain ⟨h1, h2, h3⟩ := shown_les xs h
    refine ⟨?_, h2, h3⟩
    have := listText_le (PyData.shownAll xs)
    show (listText (PyData.shownAll xs)).length ≤ 4 + shBs xs
    omega
  | .tuple xs, h => by
    obtain ⟨h1, h2, h3⟩ := shown_les xs h
    refine ⟨?_, h2, h3⟩
    have := tupleText_le (PyData.shownAll xs)
    show (tupleText (PyData.shownAll xs)).length ≤ 4 + shBs xs
    omega
theorem shown_les : ∀ ds : List PyData, shOks ds = true → ((PyData.shownAll ds).map fun t => t.length + 2).sum ≤ shBs ds ∧ PyData.showableAll ds = true ∧ PyData.hasDictAll ds = false
  | [], _ => ⟨Nat.le_refl _, rfl, rfl⟩
  | d :: ds, h => by
    have h' : (shOk d && shOks ds) = true := h
    rw [Bool.and_eq_true] at h'
    obtain ⟨a1, a2, a3⟩ := shown_le d h'.1
    obtain ⟨b1, b2, b3⟩ := shown_les ds h'.2
    refine ⟨?_, ?_, ?_⟩
    · rw [PyData.shownAll, List.map_cons, List.sum_cons]
      show _ ≤ shB d + 2 + shBs ds
      omega
    · show (d.showable && PyData.showableAll ds) = true
      rw [a2, b2]
      rfl
    · show (d.hasDict || PyData.hasDictAll ds) = false
      rw [a3, b3]
      rfl
end
theorem ref_tup {K : PySem.W.Frag} {ds : List PyData} : ∀ v H1, Dp K H1 v (.tuple ds) → ∃ a, v = .ref a := fun v H1 h => by
  cases h
  exact ⟨_, rfl⟩
theorem ref_lst {K : PySem.W.Frag} {ds : List PyData} : ∀ v H1, Dp K H1 v (.list ds) → ∃ a, v = .ref a := fun v H1 h => by
  cases h
  exact ⟨_, rfl⟩

/-! ### the law's own def, run where the caller stands: nothing is being shown there -/
section
variable {P : Program} {w : World} {K : PySem.W.Frag} {mg mb : Str → Option Value}
theorem run_here {x : Str} {st : Stmt} {N ps : List Str} {k : Nat} {f : Addr} {fd : FuncData} {A : Around} {outer : List Env} {s : Shared} {H : Hp} {args : Args} {us : List Value} {vs : List V} {Q : VK} {base : Heap}
    (D : C8.Def K mg x st f fd) (S : FnScope N ps (C8.fnScope st)) (room : Room (k + 1) A) (env : Env0 P w K mg base A outer s H) (bi : BindsTo s fd args (ps.zip us)) (rv : Vals vs us) (len : vs.length = ps.length)
    (body : ∀ cdv : Value, Room k (A.deeper (envOfC x (C8.fnScope st) s.heap.objs.size f cdv)) →
      ∃ t, PSs (cxOf C8.CX0 P w K mg base N x (C8.fnScope st) f cdv A outer s H C8.E0).nox (C8.fnBody st) t ∧ t { nx := fun _ H' => Q .non H', rt := Q } (start N vs) H) :
    codeAny (model P w) A (.call (.ref f) args) (CR C8.CX0 outer P w H s Q C8.E0) s := by
  obtain ⟨oc, od, dV, kV, doc, pm, an, cdv, ct, osl, rfl, look, code⟩ := D.fn.ex
  have sub : ∀ b o, base.get? b = some o → s.heap.get? b = some o := fun b o e => (env.bs b o e).1
  have inK := env.mod.kin.keeps sub
  have noLim := env.mod.nolimit.keeps sub
  apply codeAny_call_function room.depth (inK _ _ look) rfl S.co S.gen rfl (PySem.W.codeRec_of inK code)
  apply bi
  apply wpAny_newFunctionEnv_cells S.kind
  · rintro ⟨n, v⟩ hy
    have hp := S.par n (List.of_mem_zip hy).1
    exact hp.imp id fun c => ⟨c, PySem.W.cellsFrom_some _ _ _ (.inl c)⟩
  intro e he s1 made
  subst he
  obtain ⟨t, ht, hq⟩ := body cdv (room.deeper _)
  have inv := inv_start (CX := C8.CX0) (E := C8.E0) (N := N) S room.hd env len rv made
  refine ⟨noLim.keeps made.toInCall.keep, codeAny_func ?_⟩
  refine wpAny_mono (ht.nox.run [] s1 _ H _ inv hq) ?_ fun _ _ z => z
  intro fl s' z
  match fl, z with
  | .ret u, ⟨v, σ', H', J, r, q⟩ => exact ⟨v, H', J.os, J.bare, J.base, J.hok, r, q⟩
  | .next, ⟨σ', H', J, q⟩ => exact ⟨V.non, H', J.os, J.bare, J.base, J.hok, rfl, q⟩
  | .brk, ⟨_, _, _, q⟩ => exact q.elim
  | .cont, ⟨_, _, _, q⟩ => exact q.elim
/-- what the call of the law leaves -/
def Done (s₁ : Shared) (r : Result) (s' : Shared) : Prop := r = .ok (.ret (.bool true)) ∧ OldK s₁.heap s'.heap ∧ s'.os = s₁.os ∧ AllBare s'.gens
theorem here_core {fa a : Addr} {s₁ : Shared} {vs : List Value} (H : Hp) (KX : K.In s₁.heap) (hns : s₁.heap.Ns mainGlobals mg) (hb : s₁.heap.Ns builtinsNs mb) (hbb : ∀ x : Str, x ≠ "__name__" → mb x = bootBuiltins x) (hlim : s₁.heap.NoLimit) (hnd : s₁.heap.NoDigits) (hg : s₁.gens = #[])
    (ha : s₁.heap.get? a = some { cls := .type "list", data := .seq vs.toArray }) (hok : HOk P w H s₁.heap) (only : ∀ b u, H b = some u → b = a ∧ K.lookup a = none ∧ ∃ o ys, u = .frz o (.lst ys))
    (body : ∀ base : Heap, K.In base → base.Ns mainGlobals mg → base.NoDigits → Env0 P w K mg base callerA [] s₁ H → codeAny (model P w) callerA (.call (.ref fa) ⟨[.ref a], []⟩) (CR C8.CX0 [] P w H s₁ (fun v _ => v = .bl true) C8.E0) s₁) :
    codeAny (model P w) callerA (.call (.ref fa) ⟨[.ref a], []⟩) (Done s₁) s₁ := by
  have free : ∀ {b : Addr} {o : Obj}, s₁.heap.get? b = some o → (b = a → False) → (hidT s₁.heap H).get? b = some o := fun {b o} e n => hidT_get e (by
    cases q : H b with
    | none => rfl
    | some u => exact (n (only b u q).1).elim)
  have dictFree : ∀ {b : Addr} {o : Obj} {es : Array DictEntry} {ep : Nat}, s₁.heap.get? b = some o → o.data = .dict es ep → (hidT s₁.heap H).get? b = some o := fun {b o es ep} e d => free e fun z => by
    rw [z, ha] at e
    cases e
    exact nomatch d
  have ns : ∀ {b : Addr} {m : Str → Option Value}, s₁.heap.Ns b m → (hidT s₁.heap H).Ns b m := by
    rintro b m ⟨o, es, ep, e, d, r⟩
    exact ⟨o, es, ep, dictFree e d, d, r⟩
  have inK : K.In (hidT s₁.heap H) := fun b o e => hidT_get (KX b o e) (by
    cases q : H b with
    | none => rfl
    | some u =>
      obtain ⟨z1, z2, _⟩ := only b u q
      rw [z1, z2] at e
      cases e)
  obtain ⟨mc, l1, l2⟩ := hlim
  have env : Env0 P w K mg (hidT s₁.heap H) callerA [] s₁ H :=
    { frames := rfl, mod := ⟨inK, ns hns, ⟨mb, ns hb, hbb⟩, ⟨mc, ns l1, l2⟩⟩, bs := fun b o e => of_hidT e, bsz := Nat.le_of_eq (hidT_size _ _), funs := trivial, frf := fun b z => (List.not_mem_nil z).elim, hok := hok, bare := .of_eq hg }
  obtain ⟨md, l3, l4⟩ := hnd
  refine codeAny_mono (body _ inK (ns hns) ⟨md, ns l3, l4⟩ env) ?_
  intro r s' z
  match r, z with
  | .error e, z => exact (show False from z).elim
  | .ok .next, z => exact (show False from z).elim
  | .ok .brk, z => exact (show False from z).elim
  | .ok .cont, z => exact (show False from z).elim
  | .ok (.ret u), ⟨v, H', os, bare, un, hok', rel, q⟩ =>
    have q' : v = .bl true := q
    subst q'
    have eu : u = Value.bool true := rel
    subst eu
    refine ⟨rfl, OldK.of_keep fun b o e => ?_, os, bare⟩
    cases hq : H b with
    | none => exact un.keep b o e hq (fun z => (List.not_mem_nil z).elim) List.not_mem_nil
    | some u =>
      obtain ⟨_, _, o2, ys, rfl⟩ := only b u hq
      obtain ⟨w1, _⟩ := hok b _ hq
      obtain ⟨w2, _⟩ := hok' b _ (un.frzs b o2 _ hq)
      rw [e] at w1
      cases w1
      exact w2
theorem here_call {fa a : Addr} {s₁ : Shared} {vs : List Value} {ns : List Int} (KX : K.In s₁.heap) (hns : s₁.heap.Ns mainGlobals mg) (hb : s₁.heap.Ns builtinsNs mb) (hbb : ∀ x : Str, x ≠ "__name__" → mb x = bootBuiltins x) (hlim : s₁.heap.NoLimit) (hnd : s₁.heap.NoDigits) (hg : s₁.gens = #[])
    (ha : s₁.heap.get? a = some { cls := .type "list", data := .seq vs.toArray }) (hi : IntsAre vs ns) (hl : ns.length ≤ sizeLine)
    (body : ∀ (H : Hp) (base : Heap), K.In base → base.Ns mainGlobals mg → base.NoDigits → SqL K H a (ns.map V.int) → Env0 P w K mg base callerA [] s₁ H → codeAny (model P w) callerA (.call (.ref fa) ⟨[.ref a], []⟩) (CR C8.CX0 [] P w H s₁ (fun v _ => v = .bl true) C8.E0) s₁) :
    codeAny (model P w) callerA (.call (.ref fa) ⟨[.ref a], []⟩) (Done s₁) s₁ := by
  have rv := vals_ints hi
  cases hk : K.lookup a with
  | some o =>
    have e := (KX a o hk).symm.trans ha
    cases e
    refine here_core (fun _ => none) KX hns hb hbb hlim hnd hg ha (fun b u z => nomatch (z : (none : Option HO) = some u)) (fun b u z => nomatch (z : (none : Option HO) = some u)) fun base i1 i2 nd i3 => body _ base i1 i2 nd (.inr ⟨_, vs.toArray, _, hk, rfl, rfl, rfl, ?_, by simpa using rv⟩) i3
    rw [List.size_toArray, hi.length]
    exact hl
  | none =>
    refine here_core (upd (fun _ => none) a (.frz { cls := .type "list", data := .seq vs.toArray } (.lst (ns.map V.int)))) KX hns hb hbb hlim hnd hg ha (fun b u z => ?_) (fun b u z => ?_) fun base i1 i2 nd i3 => body _ base i1 i2 nd (.inl (.inr ⟨_, upd_same⟩)) i3
    · by_cases e : b = a
      · subst e
        rw [upd_same] at z
        cases z
        exact ⟨ha, by rw [List.length_map]; exact hl, vs, _, rv, ha⟩
      · rw [upd_ne e] at z
        cases z
    · by_cases e : b = a
      · subst e
        rw [upd_same] at z
        cases z
        exact ⟨rfl, hk, _, _, rfl⟩
      · rw [upd_ne e] at z
        cases z
end
/-- the end of a law whose def shows things -/
theorem walk_here {l : PySem.W.OpenLaw} {n k : Nat} {q : Program} {loose : List Str} {XP : (Str → Option Value) → Heap → Prop} {YP : World → Heap → Prop} {d : DefRec} {K : Params → PySem.W.Frag} {st : Stmt} {N : List Str}
    (hn : l.most = some n) (hn2 : n ≤ sizeLine) (hdf : d.params.defaults = []) (hr : Room (k + 1) callerA) (hY : ∀ (w : World) (h : Heap), YP w h → (K w.params).In h) (S : FnScope N ["script"] (C8.fnScope st))
    (F : ∀ (w : World) (mg : Str → Option Value) (fa : Addr) (h : Heap), (K w.params).In h → h.Ns mainGlobals mg → mg d.name = some (.ref fa) →
      ∃ fd : FuncData, C8.Def (K w.params) mg "law" st fa fd ∧ (∀ (s : Shared) (u : Value), BindsTo s fd ⟨[u], []⟩ [("script", u)]) ∧
        ∀ (base : Heap) (s : Shared) (H : Hp) (a : Addr) (ns : List Int) (cdv : Value), (K w.params).In base → base.Ns mainGlobals mg → base.NoDigits → ns.length ≤ n → SqL (K w.params) H a (ns.map V.int) →
          Room k (callerA.deeper (envOfC "law" (C8.fnScope st) s.heap.objs.size fa cdv)) →
          ∃ t, PSs (cxOf C8.CX0 l.prog w (K w.params) mg base N "law" (C8.fnScope st) fa cdv callerA [] s H C8.E0).nox (C8.fnBody st) t ∧ t { nx := fun _ _ => V.non = .bl true, rt := fun v _ => v = .bl true } (start N [.ref a]) H) :
    PySem.W.WalkO q loose XP YP l.row.toRowW d [] (fun f vs => PySem.call f vs) := by
  apply Att.attach_call hn hdf
  intro w s₀ s₁ mg mb fa o pm cd doc a vs ns G Y ho hd hcd hmg hobj hints hlen hg
  obtain ⟨fd, D, bi, body⟩ := F w mg fa _ (hY w _ Y) G.T.g hmg
  apply here_call (hY w _ Y) G.T.g G.T.b G.T.builtins G.T.nolimit G.T.nodigits hg hobj hints (Nat.le_trans hlen hn2)
  intro H base i1 i2 nd hS env
  exact run_here (us := [.ref a]) (vs := [.ref a]) D S hr env (bi s₁ (.ref a)) (.cons rfl .nil) rfl fun cdv room => body base s₁ H a ns cdv i1 i2 nd hlen hS room
/-! ### repr of data with numbers of up to 12000 bits, and of None -/
mutual
def bgB : PyData → Nat
  | .str x => 10 * x.length + 2
  | .list xs => 4 + bgBs xs
  | .tuple xs => 4 + bgBs xs
  | .none | .bool _ | .int _ | .dict _ => 13000
def bgBs : List PyData → Nat
  | [] => 0
  | x :: xs => bgB x + 2 + bgBs xs
def bgOk : PyData → Bool
  | .str x => PyData.strOk x
  | .int i => decide (i.natAbs.log2 < 12000)
  | .list xs => bgOks xs
  | .tuple xs => bgOks xs
  | .none | .bool _ => true
  | .dict _ => false
def bgOks : List PyData → Bool
  | [] => true
  | x :: xs => bgOk x && bgOks xs
end
mutual
theorem bg_le : ∀ d : PyData, bgOk d = true → d.shown.length ≤ bgB d
  | .none, _ => by show 4 ≤ 13000; decide
  | .bool b, _ => by cases b <;> (show _ ≤ 13000; decide)
  | .int i, h => by
    have hl : i.natAbs.log2 < 12000 := of_decide_eq_true h
    have e := int_text_length_le (k := 12000) (by decide) hl
    show (Str.ofString (toString i)).length ≤ 13000
    rw [PySem.ofString_length]
    omega
  | .str x, h => by
    show (reprText x).length ≤ 10 * x.length + 2
    refine StrLaws.reprText_len x fun c hc => ?_
    have h' : x.cps.all (· < 0x110000) = true := h
    rw [Array.all_eq_true'] at h'
    have := of_decide_eq_true (h' c (by simpa using hc))
    exact Nat.lt_of_lt_of_le this (by decide)
  | .list xs, h => by
    have h1 := bg_les xs h
    have := listText_le (PyData.shownAll xs)
    show (listText (PyData.shownAll xs)).length ≤ 4 + bgBs xs
    omega
  | .tuple xs, h => by
    have h1 := bg_les xs h
    have := tupleText_le (PyData.shownAll xs)
    show (tupleText (PyData.shownAll xs)).length ≤ 4 + bgBs xs
    omega
theorem bg_les : ∀ ds : List PyData, bgOks ds = true → ((PyData.shownAll ds).map fun t => t.length + 2).sum ≤ bgBs ds
  | [], _ => Nat.le_refl _
  | d :: ds, h => by
    have h' : (bgOk d && bgOks ds) = true := h
    rw [Bool.and_eq_true] at h'
    have a1 := bg_le d h'.1
    have b1 := bg_les ds h'.2
    rw [PyData.shownAll, List.map_cons, List.sum_cons]
    show _ ≤ bgB d + 2 + bgBs ds
    omega
end
section
variable {prog : Program} {w : World} {h₀ : Heap}
theorem big_lt {i : Int} (h : i.natAbs.log2 < 12000) : i.natAbs < 10 ^ 4300 :=
  Nat.lt_of_lt_of_le (PyProof.Rows.lt_of_log2 (Nat.lt_trans h (by decide : 12000 < 12900))) PyProof.Rows.pow_lo
open PySem.Builtin PySem.Builtin.Int in
theorem call_int_big {A : Around} {E : Value → Shared → Prop} {s : Shared} {a : Int} {t : Tok} {Q : Value → Shared → Prop} (hn : s.heap.NoDigits) (ha : a.natAbs.log2 < 12000) (h1 : Q (.str (toString a) s.toks) { s with toks := s.toks + 1 }) :
    wpAny (model prog w) A (PySem.call (.builtin "int.__repr__") [.int a t]) Q E s := by
  refine wpAny_call_entry F.slot_int_repr (typeIs_int s a t) F.entry_int_repr ?_ (F.args_int_repr_1 _)
  unfold Builtin.«int.__repr__»
  show wpAny _ _ (do let r ← Builtin.overDigitLimit? a; _) _ _ s
  refine wpAny_bind (PyProof.Rows.overDigitLimit_any hn (fun hlt => ?_) (fun hge => absurd hge (Nat.not_le.mpr (big_lt ha))))
  exact wpAny_bind (wpAny_mkStr (wpAny_pure ⟨_, rfl, h1⟩) (int_text_fits10 hlt))
theorem pyReprObj_big {A : Around} {E : Value → Shared → Prop} {s : Shared} {a : Int} {t : Tok} {Q : Value → Shared → Prop} (hn : s.heap.NoDigits) (ha : a.natAbs.log2 < 12000) (h1 : Q (.str (toString a) s.toks) { s with toks := s.toks + 1 }) :
    wpAny (model prog w) A (pyReprObj (.int a t)) Q E s := by
  have hv : [Value.int a t].any Value.onHeap = false := rfl
  unfold pyReprObj
  simp only [cRoomFor, hv, Bool.false_eq_true, if_false, pure_bind]
  refine wpAny_bind (wpAny_specialOf (name := Str.ofString "__repr__") (typeIs_int s a t) F.slot_int_repr.lookup ?_)
  refine wpAny_bind (m := callSpecialIfBound? (.int a t) (Str.ofString "__repr__")) (wpAny_callSpecialIfBound?_slot (name := Str.ofString "__repr__") (typeIs_int s a t) F.slot_int_repr (call_int_big hn ha ?_))
  exact wpAny_pure h1
theorem reprK_big {i : Int} {t : Tok} {bs : List Addr} {d : Nat} (hn : h₀.NoDigits) (hi : i.natAbs.log2 < 12000) : ReprK prog w bs h₀ d (.int i t) (toString i) := fun n hb A g E s Q hg hcl hu hk hQ => by
  have hn' : n ≤ sizeLine := by omega
  rw [pyReprUnder_leaf (v := .int i t) hn' (fun _ e => nomatch e)]
  unfold pyRepr
  exact wpAny_bind (pyReprObj_big (hn.keeps hk) hi (wpAny_pure (hQ s.heap _ fun _ _ e => e)))
theorem reprs_big {n : Nat} (IH : ∀ {v : Value} {d : PyData} {as : List Addr}, d.depth ≤ n → Reads h₀ v d as → bgOk d = true → d.shown.length ≤ sizeLine → ∃ bs, ReadAtMost h₀ d.depth bs ∧ ReprK prog w bs h₀ d.depth v d.shown) :
    ∀ {ds : List PyData} {vs : List Value} {as : List Addr}, PyData.depthAll ds ≤ n → ReadsAll h₀ vs ds as → bgOks ds = true → (∀ t ∈ PyData.shownAll ds, t.length ≤ sizeLine) → ∃ bs, ReadAtMost h₀ (PyData.depthAll ds) bs ∧ ReprAllK prog w bs h₀ (PyData.depthAll ds) vs (PyData.shownAll ds)
  | [], _, _, _, r, _, _ => by
    cases r
    exact ⟨[], (fun _ h => nomatch h), by simp only [PyData.shownAll]; exact .nil⟩
  | d :: ds, _, _, hd, r, hs, hz => by
    cases r with
    | cons r rs =>
    simp only [PyData.depthAll] at hd
    have hs' : (bgOk d && bgOks ds) = true := hs
    rw [Bool.and_eq_true] at hs'
    obtain ⟨b1, hb1, k1⟩ := IH (by omega) r hs'.1 (hz _ (by simp only [PyData.shownAll]; exact List.mem_cons_self ..))
    obtain ⟨b2, hb2, k2⟩ := reprs_big IH (by omega) rs hs'.2 (fun t ht => hz t (by simp only [PyData.shownAll]; exact List.mem_cons_of_mem _ ht))
    refine ⟨b1 ++ b2, ?_, ?_⟩
    · intro b hm
      simp only [PyData.depthAll]
      rcases List.mem_append.mp hm with hm | hm
      · obtain ⟨d', as', r', hd'⟩ := hb1 b hm
        exact ⟨d', as', r', Nat.le_trans hd' (Nat.le_max_left _ _)⟩
      · obtain ⟨d', as', r', hd'⟩ := hb2 b hm
        exact ⟨d', as', r', Nat.le_trans hd' (Nat.le_max_right _ _)⟩
    · simp only [PyData.depthAll, PyData.shownAll]
      exact .cons ((k1.more fun b hb => List.mem_append_left _ hb).level_le (Nat.le_max_left _ _)) (k2.more_le (fun b hb => List.mem_append_right _ hb) (Nat.le_max_right _ _))
theorem repr_big (hn : h₀.NoDigits) : ∀ (n : Nat) {v : Value} {d : PyData} {as : List Addr}, d.depth ≤ n → Reads h₀ v d as → bgOk d = true → d.shown.length ≤ sizeLine → ∃ bs, ReadAtMost h₀ d.depth bs ∧ ReprK prog w bs h₀ d.depth v d.shown
  | 0, v, d, as, hd, r, hs, hz => by
    cases r with
    | none => exact ⟨[], (fun _ h => nomatch h), by simp only [PyData.shown]; exact .of_is ReprIs.none _ _ _⟩
    | bool b => exact ⟨[], (fun _ h => nomatch h), by simp only [PyData.shown]; exact .of_is (ReprIs.bool b) _ _ _⟩
    | int i t => exact ⟨[], (fun _ h => nomatch h), by simp only [PyData.shown]; exact reprK_big hn (of_decide_eq_true hs)⟩
    | str x t => exact ⟨[], (fun _ h => nomatch h), by simp only [PyData.shown]; exact .of_is (ReprIs.str x t (by simpa only [PyData.shown] using hz)) _ _ _⟩
    | list h1 h2 h3 h4 => simp only [PyData.depth] at hd; omega
    | tuple h1 h2 h3 h4 => simp only [PyData.depth] at hd; omega
    | dict h1 h2 h3 h4 h5 => exact nomatch hs
  | n + 1, v, d, as, hd, r, hs, hz => by
    cases r with
    | none => exact ⟨[], (fun _ h => nomatch h), by simp only [PyData.shown]; exact .of_is ReprIs.none _ _ _⟩
    | bool b => exact ⟨[], (fun _ h => nomatch h), by simp only [PyData.shown]; exact .of_is (ReprIs.bool b) _ _ _⟩
    | int i t => exact ⟨[], (fun _ h => nomatch h), by simp only [PyData.shown]; exact reprK_big hn (of_decide_eq_true hs)⟩
    | str x t => exact ⟨[], (fun _ h => nomatch h), by simp only [PyData.shown]; exact .of_is (ReprIs.str x t (by simpa only [PyData.shown] using hz)) _ _ _⟩
    | dict h1 h2 h3 h4 h5 => exact nomatch hs
    | tuple h1 h2 h3 h4 =>
      rename_i a o vs n2 xs
      have hz' : (tupleText (PyData.shownAll xs)).length ≤ sizeLine := by simpa only [PyData.shown] using hz
      obtain ⟨bs, hb, hk⟩ := reprs_big (repr_big hn n) (by simp only [PyData.depth] at hd; omega) h4 hs (fun t ht => Nat.le_trans (tupleText_mem_le ht) hz')
      have hna := not_mem_of_deeper (.tuple h1 h2 h3 h4) (by simp only [PyData.depth]; omega) hb
      refine ⟨_, ReadAtMost.cons (.tuple h1 h2 h3 h4) (by simp only [PyData.depth]; omega) hb, ?_⟩
      simp only [PyData.depth, PyData.shown]
      exact ReprK.tuple h1 h2 h3 hna hk
    | list h1 h2 h3 h4 =>
      rename_i a o vs n2 xs as2
      have hz' : (listText (PyData.shownAll xs)).length ≤ sizeLine := by simpa only [PyData.shown] using hz
      obtain ⟨bs, hb, hk⟩ := reprs_big (repr_big hn n) (by simp only [PyData.depth] at hd; omega) h4 hs (fun t ht => Nat.le_trans (listText_mem_le ht) hz')
      have hna := not_mem_of_deeper (.list h1 h2 h3 h4) (by simp only [PyData.depth]; omega) hb
      refine ⟨_, ReadAtMost.cons (.list h1 h2 h3 h4) (by simp only [PyData.depth]; omega) hb, ?_⟩
      simp only [PyData.depth, PyData.shown]
      obtain ⟨l⟩ := vs
      cases l with
      | nil =>
        have h4' : ReadsAll h₀ [] xs _ := h4
        cases h4'
        simp only [PyData.shownAll, listText_nil]
        exact ReprK.listEmpty h1 h2 h3
      | cons x l => exact ReprK.list h1 h2 h3 hna (by simpa using hk.length_eq) (fun i y e => hk.item i y (by simpa using e))
theorem call_repr_big {A : Around} {E : Value → Shared → Prop} {s : Shared} {Q : Value → Shared → Prop} {a : Addr} {d : PyData} {as : List Addr} (hn : s.heap.NoDigits) (r : Reads s.heap (.ref a) d as) (hs : bgOk d = true) (hz : d.shown.length ≤ sizeLine) (hg : A.guards = some []) (hu : A.units + (d.depth + 1) < cLine)
    (hQ : ∀ h' u tk, (∀ b o, s.heap.get? b = some o → h'.get? b = some o) → Q (.str d.shown u) { s with heap := h', toks := tk }) : wpAny (model prog w) A (PySem.call (.builtin "repr") [.ref a]) Q E s := by
  have hu1 : A.in1.units + d.depth < cLine := by show A.units + 1 + d.depth < cLine; omega
  cases r with
  | dict h1 h2 h3 h4 h5 => exact nomatch hs
  | tuple h1 h2 h3 h4 =>
    rename_i o vs n2 xs
    have hz' : (tupleText (PyData.shownAll xs)).length ≤ sizeLine := by simpa only [PyData.shown] using hz
    obtain ⟨bs, hb, hk⟩ := reprs_big (prog := prog) (w := w) (repr_big hn (PyData.depthAll xs)) (Nat.le_refl _) h4 hs (fun t ht => Nat.le_trans (tupleText_mem_le ht) hz')
    have hna := not_mem_of_deeper (.tuple h1 h2 h3 h4) (by simp only [PyData.depth]; omega) hb
    simp only [PyData.depth] at hu1
    simp only [PyData.shown] at hQ
    exact call_repr_slot (by omega) ⟨o, h1, h2⟩ F.slot_tuple_repr (call_tuple_reprK h1 h2 h3 hna hk hg (fun b _ => Clear.nil b) hu1 (fun _ _ e => e) (fun h' u tk hk' => ⟨_, _, rfl, hQ h' u tk hk'⟩) hz')
  | list h1 h2 h3 h4 =>
    rename_i o vs n2 xs as2
    have hz' : (listText (PyData.shownAll xs)).length ≤ sizeLine := by simpa only [PyData.shown] using hz
    obtain ⟨bs, hb, hk⟩ := reprs_big (prog := prog) (w := w) (repr_big hn (PyData.depthAll xs)) (Nat.le_refl _) h4 hs (fun t ht => Nat.le_trans (listText_mem_le ht) hz')
    have hna := not_mem_of_deeper (.list h1 h2 h3 h4) (by simp only [PyData.depth]; omega) hb
    simp only [PyData.depth] at hu1
    simp only [PyData.shown] at hQ
    obtain ⟨l⟩ := vs
    cases l with
    | nil =>
      have h4' : ReadsAll s.heap [] xs _ := h4
      cases h4'
      simp only [PyData.shownAll, listText_nil] at hQ
      exact call_repr_slot (by omega) ⟨o, h1, h2⟩ F.slot_list_repr.toG (call_list_repr_empty ⟨o, h1, h2⟩ h1 h3 ⟨_, _, rfl, hQ s.heap _ _ fun _ _ e => e⟩)
    | cons x l =>
      exact call_repr_slot (by omega) ⟨o, h1, h2⟩ F.slot_list_repr.toG (call_list_reprK h1 h2 h3 hna (by simpa using hk.length_eq) (fun i y e => hk.item i y (by simpa using e)) hg (fun b _ => Clear.nil b) hu1 (fun _ _ e => e) (fun h' u tk hk' => ⟨_, _, rfl, hQ h' u tk hk'⟩) hz')
end
def rReprN (K : PySem.W.Frag) : List V → Hp → VK → Prop := fun xs H Q => (∃ a d, xs = [.ref a] ∧ Dp K H (.ref a) d ∧ bgOk d = true ∧ d.depth ≤ 60 ∧ d.shown.length ≤ sizeLine ∧ Q (.str d.shown) H) ∨ (xs = [.non] ∧ Q (.str (PyData.shown .none)) H)
theorem call_reprN {X : Cx} (hg : X.A.guards = some []) (hu : X.A.units + 64 < cLine) (nd : X.base.NoDigits) : CallR X (.builtin "repr") (rReprN X.K) := by
  intro pins s σ H xs us Q I r h
  rcases h with ⟨a, d, rfl, hd, h1, h3, h4, q⟩ | ⟨rfl, q⟩
  · obtain ⟨u, rfl, ru⟩ := vals1 r
    obtain ⟨as, rd⟩ := Dp.reads I d _ u hd ru
    cases (show u = Value.ref a from ru)
    exact call_repr_big (nd.keeps I.bk) rd h1 h4 hg (by omega) (fun h' u tk hk => ⟨.str d.shown, H, I.kept hk, ⟨_, rfl⟩, q⟩)
  · obtain ⟨u, rfl, ru⟩ := vals1 r
    cases (show u = Value.none from ru)
    exact PySem.P.repr_of_none ⟨.str (PyData.shown .none), H, I.kept (fun _ _ e => e), ⟨_, rfl⟩, q⟩
theorem ev_shownN {K : PySem.W.Frag} {σ : L2.St} {H : Hp} {ta : TE} {d : PyData} (ha : EvD K ta σ H d) (hr : d ≠ .none → ∀ v H1, Dp K H1 v d → ∃ a, v = .ref a) (h1 : bgOk d = true) (h2 : bgB d ≤ 4000000) (h3 : d.depth ≤ 60) : Ev (tCB (rReprN K) (tCons ta tNil)) σ H (.str d.shown) := fun H1 e Q q =>
  ha H1 e _ fun v H2 e2 hd => by
    by_cases z : d = .none
    · subst z
      cases hd
      exact .inr ⟨rfl, q H2 e2⟩
    · obtain ⟨a, rfl⟩ := hr z v H2 hd
      exact .inl ⟨a, d, rfl, hd, h1, h3, Nat.le_trans (bg_le d h1) (Nat.le_trans h2 (by decide)), q H2 e2⟩

/-! ### a def that shows things: called where nothing is being shown -/
structure CalG (P : Program) (w : World) (K : PySem.W.Frag) (mg : Str → Option Value) (base : Heap) (k : Nat) (x : Str) (sp : Sp) : Prop where
  ex : ∃ (f : Addr) (fd : FuncData) (ps : List Str), (∀ vs H Q E, sp vs H Q E → vs.length = ps.length) ∧
    (∀ (A : Around) (outer : List Env) (s : Shared) (H : Hp) (args : Args) (us : List Value) (vs : List V) (Q : VK) (E : XK), Room k A → A.guards = some [] → Env0 P w K mg base A outer s H → BindsTo s fd args (ps.zip us) → Vals vs us → sp vs H Q E →
      codeAny (model P w) A (.call (.ref f) args) (CR C8.CX0 outer P w H s Q E) s) ∧ mg x = some (.ref f) ∧ PySem.W.keepIn K (.ref f) = true ∧ Binds K fd ps []
section
variable {P : Program} {w : World} {K : PySem.W.Frag} {mg : Str → Option Value} {base : Heap}
theorem calG_of {x : Str} {st : Stmt} {N ps : List Str} {k : Nat} {sp : Sp} (D : Dn K mg x st ps) (S : FnScope N ps (C8.fnScope st)) (len : ∀ vs H Q E, sp vs H Q E → vs.length = ps.length)
    (hbody : ∀ (f : Addr) (cdv : Value) (A : Around) (outer : List Env) (s : Shared) (H : Hp) (vs : List V) (Q : VK) (E : XK), Room k (A.deeper (envOfC x (C8.fnScope st) s.heap.objs.size f cdv)) → (A.deeper (envOfC x (C8.fnScope st) s.heap.objs.size f cdv)).guards = some [] → sp vs H Q E →
      ∃ t, PSs (cxOf C8.CX0 P w K mg base N x (C8.fnScope st) f cdv A outer s H E).nox (C8.fnBody st) t ∧ t { nx := fun _ H' => Q .non H', rt := Q } (start N vs) H) : CalG P w K mg base (k + 1) x sp := by
  obtain ⟨f, fd, F, b⟩ := D
  refine ⟨f, fd, ps, len, fun A outer s H args us vs Q E room hg env bi rv hsp => ?_, F.mgf, F.kp, b⟩
  obtain ⟨oc, od, dV, kV, doc, pm, an, cdv, ct, osl, rfl, look, code⟩ := F.fn.ex
  have sub : ∀ b o, base.get? b = some o → s.heap.get? b = some o := fun b o e => (env.bs b o e).1
  have inK := env.mod.kin.keeps sub
  have noLim := env.mod.nolimit.keeps sub
  apply codeAny_call_function room.depth (inK _ _ look) rfl S.co S.gen rfl (PySem.W.codeRec_of inK code)
  apply bi
  apply wpAny_newFunctionEnv_cells S.kind
  · rintro ⟨n, v⟩ hy
    have hp := S.par n (List.of_mem_zip hy).1
    exact hp.imp id fun c => ⟨c, PySem.W.cellsFrom_some _ _ _ (.inl c)⟩
  intro e he s1 made
  subst he
  obtain ⟨t, ht, hq⟩ := hbody f cdv A outer s H vs Q E (room.deeper _) hg hsp
  have inv := inv_start (CX := C8.CX0) (E := E) (N := N) S room.hd env (len _ _ _ _ hsp) rv made
  refine ⟨noLim.keeps made.toInCall.keep, codeAny_func ?_⟩
  refine wpAny_mono (ht.nox.run [] s1 _ H _ inv hq) ?_ fun _ _ z => z
  intro fl s' z
  match fl, z with
  | .ret u, ⟨v, σ', H', J, r, q⟩ => exact ⟨v, H', J.os, J.bare, J.base, J.hok, r, q⟩
  | .next, ⟨σ', H', J, q⟩ => exact ⟨V.non, H', J.os, J.bare, J.base, J.hok, rfl, q⟩
  | .brk, ⟨_, _, _, q⟩ => exact q.elim
  | .cont, ⟨_, _, _, q⟩ => exact q.elim
end
theorem pe_cG {X : Cx} {k j : Nat} {x : Str} {sp : Sp} {p pos : Pos} {e : Expr} {es : List Expr} {t : TA} (c : CalG X.prog X.w X.K X.mg X.base k x sp) (hr : Room j X.A) (hk : k ≤ j) (hgd : X.A.guards = some []) (hg : Gl X x) (ha : PA X (e :: es) t)
    (hdb : (x == ("__debug__" : Str)) = false := by decide) (he : starEach (e :: es) X.env = (false, eval e X.env) :: starEach es X.env := by rfl) (hpl : (backTo pos (starEach es X.env)).any (·.1) = false := by rfl) :
    PE X (.Call (.Name x p) (e :: es) [] pos) (tCall sp [] C8.E0 t) := by
  obtain ⟨f, fd, ps, len, run, hm, kp, b⟩ := c.ex
  refine ⟨fun pins s σ H Q I h => ?_⟩
  refine wpAny_Call_Name_kw (ld_glob I hg hm ?_ hdb)
  refine PySem.W.callWith_K (h₀ := X.base) I.ok.mod.kin kp (thn (ha.run pos pins s σ H _ I h) fun us s1 ⟨vs, H1, I1, r, q⟩ => ⟨I1.kIn, ?_⟩) he hpl
  have q' : sp vs H1 Q C8.E0 := by rw [← List.append_nil vs]; exact q
  have hl : (us ++ []).length = ps.length := by rw [List.append_nil, ← r.length]; exact len _ _ _ _ q'
  refine wpAny_call (codeAny_mono (run X.A X.stack s1 H1 ⟨us, []⟩ us vs Q C8.E0 (hr.mono hk) hgd I1.env0 (by
    have := b s1 us I1.kIn hl
    rw [List.append_nil] at this
    exact this) r q') fun r s' hq => ?_)
  cases r with
  | error e => exact False.elim hq
  | ok fl =>
    cases fl with
    | ret u => exact I1.after hq
    | next => exact False.elim hq
    | brk => exact False.elim hq
    | cont => exact False.elim hq

/-! ### further loops: reversed(a list), range(n - 1, -1, -1), a new tuple -/
section
variable {K : PySem.W.Frag} {σ : L2.St} {H H' : Hp} {D : Ends} {tz tu : TS} {te tl : TE} {g : TG}
theorem s_break (h : D.bk σ H) : tBreak D σ H := h
theorem q_forRev {a : Addr} {xs : List V} {tr : TA} {j : Nat} (h : EvA tr σ H [.ref a]) (hS : SqL K H a xs) (Pv : Nat → L2.St → Hp → Prop) (h0 : ∀ H1, Ex H H1 → Pv 0 σ H1) (hl : ∀ i σ' H', Pv i σ' H' → SqL K H' a xs)
    (hs : ∀ (i : Nat) x σ' H', i < xs.length → xs[xs.length - 1 - i]? = some x → Pv i σ' H' → tu { D with nx := Pv (i + 1), ct := Pv (i + 1), bk := tz D } (σ'.set j (some x)) H') (hd : ∀ σ' H', Pv xs.length σ' H' → tz D σ' H') : tSeq (tFor (iRev K tr) (gName j) tu) tz D σ H :=
  h H (Ex.refl H) _ fun H1 e => ⟨a, xs, rfl, ex_l e hS, RT.for_Itv (D := { D with nx := tz D }) Pv (h0 H1 e) hl hs hd⟩
theorem s_forDown {tr : TA} {j n : Nat} (h : EvA tr σ H [.int ((n : Int) - 1), .int (-1), .int (-1)]) (hn : n ≤ 100000) (Pv : Nat → L2.St → Hp → Prop) (h0 : ∀ H1, Ex H H1 → Pv 0 σ H1)
    (hs : ∀ (i : Nat) σ' H', i < n → Pv i σ' H' → tu { D with nx := Pv (i + 1), ct := Pv (i + 1), bk := D.nx } (σ'.set j (some (.int (((n - 1 - i : Nat) : Int))))) H') (hd : ∀ σ' H', Pv n σ' H' → D.nx σ' H') : tFor (iRng3 tr) (gName j) tu D σ H := by
  refine h H (Ex.refl H) _ fun H1 e => ⟨(n : Int) - 1, -1, -1, ((n : Int) - 1 - (-1)).toNat, rfl, RgC.neg (by omega) (by omega) (by omega) (by omega), for_rangeC Pv (h0 H1 e) (fun i σ' H' hi p => ?_) fun σ' H' p => hd σ' H' ?_⟩
  · have e0 : (n : Int) - 1 + (i : Nat) * (-1) = ((n - 1 - i : Nat) : Int) := by omega
    show tu { D with nx := Pv (i + 1), ct := Pv (i + 1), bk := D.nx } (σ'.set j (some (.int ((n : Int) - 1 + (i : Nat) * (-1))))) H'
    rw [e0]
    exact hs i σ' H' (by omega) p
  · rw [show ((n : Int) - 1 - (-1)).toNat = n by omega] at p
    exact p
theorem q_forDown {tr : TA} {j n : Nat} (h : EvA tr σ H [.int ((n : Int) - 1), .int (-1), .int (-1)]) (hn : n ≤ 100000) (Pv : Nat → L2.St → Hp → Prop) (h0 : ∀ H1, Ex H H1 → Pv 0 σ H1)
    (hs : ∀ (i : Nat) σ' H', i < n → Pv i σ' H' → tu { D with nx := Pv (i + 1), ct := Pv (i + 1), bk := tz D } (σ'.set j (some (.int (((n - 1 - i : Nat) : Int))))) H') (hd : ∀ σ' H', Pv n σ' H' → tz D σ' H') : tSeq (tFor (iRng3 tr) (gName j) tu) tz D σ H :=
  s_forDown (D := { D with nx := tz D }) h hn Pv h0 hs hd
/-- over a new tuple: the turns' word speaks of what grows out of H1 -/
theorem q_forU {xs : List V} {j : Nat} (h : EvU tl σ H xs) (Pv : Nat → L2.St → Hp → Prop) (h0 : Pv 0 σ H) (hm : ∀ i σ' H1 H2, Pv i σ' H1 → Ex H1 H2 → Pv i σ' H2)
    (hs : ∀ i x σ' H1, xs[i]? = some x → Pv i σ' H1 → ∀ N : L2.St → Hp → Prop, (∀ σ2 H2, Pv (i + 1) σ2 H2 → Ex H1 H2 → N σ2 H2) → tu { D with nx := N, ct := N, bk := tz D } (σ'.set j (some x)) H1) (hd : ∀ σ' H', Pv xs.length σ' H' → tz D σ' H') : tSeq (tFor (iTup K tl) (gName j) tu) tz D σ H :=
  h H (Ex.refl H) _ fun p H1 hp e h1 => ⟨p, rfl, ⟨xs, st_of h1⟩, for_tup (D := { D with nx := tz D }) (fun i σ' H' => Pv i σ' H' ∧ H' p = some (.tup xs)) ⟨hm _ _ _ _ h0 e, h1⟩ (fun i σ' H' _ q => st_of q.2)
    (fun i x σ' H' hx q => hs i x σ' H' hx q.1 _ fun σ2 H2 q2 e2 => ⟨q2, e2 _ _ q.2⟩) fun σ' H' q => hd σ' H' q.1⟩
end

def limV (n : Int) : V := if -1000000000000000 ≤ n ∧ n ≤ 1000000000000000 then .int n else .non
/-! ### the mathematics: digits -/
abbrev dval : List Nat → Nat := NumText.digitsVal
def isD (c : Nat) : Bool := decide (48 ≤ c) && decide (c ≤ 57)
def digs (l : List Nat) : Bool := !l.isEmpty && l.all isD
theorem uni_dig : ∀ c : Fin 128, Unicode.isDigit c.1 = isD c.1 := by decide +kernel
theorem all_dig : ∀ l : List Nat, (l.all Unicode.isDigit && l.all fun c => decide (c < 128)) = l.all isD
  | [] => rfl
  | c :: r => by
    have ih := all_dig r
    rw [List.all_cons, List.all_cons, List.all_cons, ← ih]
    by_cases h : c < 128
    · rw [decide_eq_true h, show Unicode.isDigit c = isD c from uni_dig ⟨c, h⟩]
      cases isD c <;> cases r.all Unicode.isDigit <;> simp
    · have : isD c = false := by
        unfold isD
        rw [decide_eq_false (show ¬ c ≤ 57 by omega), Bool.and_false]
      rw [this, decide_eq_false h]
      simp
theorem digs_txt (l : List Nat) : (Txt.isdigit (SX.S l) && Txt.isascii (SX.S l)) = digs l := by
  unfold Txt.isdigit Txt.isascii digs
  rw [SX.S_len, show (SX.S l).cps.all Unicode.isDigit = l.all Unicode.isDigit from List.all_toArray, show ((SX.S l).cps.all fun c => decide (c < 128)) = l.all fun c => decide (c < 128) from List.all_toArray, Bool.and_assoc, all_dig]
  cases l <;> rfl
theorem mem_dig {l : List Nat} (h : l.all isD = true) : NumText.AllDigits l := fun c hc => by
  have := List.all_eq_true.mp h c hc
  unfold isD at this
  rw [Bool.and_eq_true, decide_eq_true_eq, decide_eq_true_eq] at this
  exact this
theorem fold_app (l : List Nat) : ∀ a : Nat, l.foldl (fun acc c => acc * 10 + (c - 48)) a = a * 10 ^ l.length + dval l := by
  induction l with
  | nil => intro a; simp [dval, NumText.digitsVal]
  | cons c r ih =>
    intro a
    show r.foldl _ (a * 10 + (c - 48)) = _ + r.foldl _ (0 * 10 + (c - 48))
    rw [ih, ih, List.length_cons, Nat.pow_succ, Nat.add_mul, Nat.zero_mul, Nat.zero_add, Nat.mul_assoc, Nat.mul_comm 10, Nat.add_assoc]
theorem dval_app (l r : List Nat) : dval (l ++ r) = dval l * 10 ^ r.length + dval r := by
  show (l ++ r).foldl _ 0 = _
  rw [List.foldl_append, fold_app]
  rfl
theorem dval_cons (c : Nat) (r : List Nat) : dval (c :: r) = (c - 48) * 10 ^ r.length + dval r := by
  have := dval_app [c] r
  rw [show dval [c] = c - 48 from by show 0 * 10 + (c - 48) = _; omega] at this
  exact this
theorem dval_lt : ∀ l : List Nat, l.all isD = true → dval l < 10 ^ l.length
  | [], _ => by decide
  | c :: r, h => by
    rw [List.all_cons, Bool.and_eq_true] at h
    have ih := dval_lt r h.2
    have hc := mem_dig (l := [c]) (by rw [List.all_cons, h.1]; rfl) c (List.mem_singleton.mpr rfl)
    rw [dval_cons, List.length_cons, Nat.pow_succ]
    have : (c - 48) * 10 ^ r.length ≤ 9 * 10 ^ r.length := Nat.mul_le_mul_right _ (by omega)
    omega
def noZ (l : List Nat) : List Nat := l.dropWhile (fun c => c == 48)
theorem dval_noZ : ∀ l : List Nat, dval (noZ l) = dval l
  | [] => rfl
  | c :: r => by
    unfold noZ
    rw [List.dropWhile_cons]
    split
    · rename_i h
      rw [show List.dropWhile (fun c => c == 48) r = noZ r from rfl, dval_noZ r, dval_cons, beq_iff_eq.mp h, Nat.sub_self, Nat.zero_mul, Nat.zero_add]
    · rfl
theorem all_noZ : ∀ {l : List Nat}, l.all isD = true → (noZ l).all isD = true
  | [], _ => rfl
  | c :: r, h => by
    unfold noZ
    rw [List.dropWhile_cons]
    split
    · exact all_noZ (by rw [List.all_cons, Bool.and_eq_true] at h; exact h.2)
    · exact h
theorem noZ_len (l : List Nat) : (noZ l).length ≤ l.length := (List.dropWhile_suffix _).length_le
/-- more than sixteen digits behind the zeros: beyond every limit -/
theorem noZ_big {l : List Nat} (h : l.all isD = true) (hl : 16 < (noZ l).length) : 10 ^ 16 ≤ dval l := by
  have ha := all_noZ h
  rw [← dval_noZ]
  have hd : ∀ c r, noZ l = c :: r → ¬ c = 48 := fun c r e hc => by
    have := List.head?_dropWhile_not (fun c => c == 48) l
    rw [show List.dropWhile (fun c => c == 48) l = c :: r from e] at this
    simp [hc] at this
  generalize noZ l = z at *
  cases z with
  | nil => simp at hl
  | cons c r =>
    have hc := mem_dig (l := [c]) (by rw [List.all_cons, Bool.and_eq_true] at ha; rw [List.all_cons, ha.1]; rfl) c (List.mem_singleton.mpr rfl)
    have hn := hd c r rfl
    rw [dval_cons]
    have h1 : 10 ^ 16 ≤ 10 ^ r.length := Nat.pow_le_pow_right (by decide) (by simp at hl; omega)
    have h2 : 1 * 10 ^ r.length ≤ (c - 48) * 10 ^ r.length := Nat.mul_le_mul_right _ (by omega)
    omega
theorem con48 : (SX.S [48]).cps.contains = fun c => c == 48 := by
  funext c
  show (#[48] : Array Nat).contains c = _
  rw [Bool.eq_iff_iff]
  simp
theorem tl_S (l : List Nat) : TL.tl (SX.S l) = l := TL.tl_mk l
theorem lstrip_S (l : List Nat) : Txt.lstripChars (SX.S l) (SX.S [48]) = SX.S (noZ l) := by
  unfold Txt.lstripChars
  rw [PySem.W.stripBy_eq, con48]
  apply TL.ext_tl
  unfold PySem.W.stripped
  simp only [if_true, Bool.false_eq_true, if_false]
  rw [TL.tl_strSub, TL.len_tl, tl_S, tl_S]
  show List.take _ (List.drop (List.takeWhile (fun c => c == 48) l).length l) = _
  have e : List.drop (List.takeWhile (fun c => c == 48) l).length l = noZ l := by
    have h := List.takeWhile_append_dropWhile (p := fun c => c == 48) (l := l)
    conv => lhs; arg 2; rw [← h]
    rw [List.drop_left]
    rfl
  rw [e]
  apply List.take_of_length_le
  have h := congrArg List.length (List.takeWhile_append_dropWhile (p := fun c => c == 48) (l := l))
  rw [List.length_append] at h
  have : (noZ l).length = (List.dropWhile (fun c => c == 48) l).length := rfl
  omega
/-- without zeros at the end -/
def noE (l : List Nat) : List Nat := (noZ l.reverse).reverse
theorem rstrip_S (l : List Nat) : Txt.rstripChars (SX.S l) (SX.S [48]) = SX.S (noE l) := by
  unfold Txt.rstripChars
  rw [PySem.W.stripBy_eq, con48]
  apply TL.ext_tl
  unfold PySem.W.stripped
  simp only [if_true, Bool.false_eq_true, if_false]
  rw [TL.tl_strSub, SX.S_len, tl_S, tl_S]
  show List.take (l.length - (List.takeWhile (fun c => c == 48) (List.drop 0 l).reverse).length - 0) (List.drop 0 l) = _
  rw [List.drop_zero, Nat.sub_zero]
  have h := List.takeWhile_append_dropWhile (p := fun c => c == 48) (l := l.reverse)
  have h2 : l = noE l ++ (List.takeWhile (fun c => c == 48) l.reverse).reverse := by
    have := congrArg List.reverse h
    rw [List.reverse_append, List.reverse_reverse] at this
    exact this.symm
  have h3 := congrArg List.length h2
  rw [List.length_append, List.length_reverse] at h3
  conv => lhs; arg 2; rw [h2]
  rw [show l.length - (List.takeWhile (fun c => c == 48) l.reverse).length = (noE l).length by omega, List.take_left]
theorem starts_S (l : List Nat) : Txt.startswith (SX.S l) (SX.S [45]) = decide (l.head? = some 45) := by
  cases l with
  | nil => rfl
  | cons c r =>
    unfold Txt.startswith
    rw [SX.S_len, SX.S_len, decide_eq_true (by simp), Bool.true_and]
    rw [Bool.eq_iff_iff, decide_eq_true_eq]
    show Builtin.Str.subAt (SX.S (c :: r)) (SX.S [45]) 0 = true ↔ some c = some 45
    unfold Builtin.Str.subAt
    simp
    show List.take 1 (c :: r) = [45] ↔ c = 45
    simp
/-- the text without a minus sign in front -/
def noM (l : List Nat) : List Nat := if l.head? = some 45 then l.drop 1 else l
def sgI (l : List Nat) (n : Nat) : Int := if l.head? = some 45 then -(n : Int) else (n : Int)
def rdI (l : List Nat) : V := if digs (noM l) = true then limV (sgI l (dval (noM l))) else .non
theorem numL_pad {r : Nat} (h : r < 10000) : List.replicate (4 - (TL.numL r).length) 48 ++ TL.numL r = [48 + r / 1000, 48 + r / 100 % 10, 48 + r / 10 % 10, 48 + r % 10] := by
  by_cases h1 : r < 10
  · rw [TL.numL_lt h1, show r / 1000 = 0 by omega, show r / 100 = 0 by omega, show r / 10 = 0 by omega, show r % 10 = r by omega]
    rfl
  by_cases h2 : r < 100
  · rw [TL.numL_step (by omega), TL.numL_lt (by omega), show r / 1000 = 0 by omega, show r / 100 = 0 by omega, show r / 10 % 10 = r / 10 by omega]
    rfl
  by_cases h3 : r < 1000
  · rw [TL.numL_step (by omega), TL.numL_step (by omega), TL.numL_lt (by omega), show r / 1000 = 0 by omega, show r / 10 / 10 = r / 100 by omega, show r / 100 % 10 = r / 100 by omega]
    rfl
  · rw [TL.numL_step (by omega), TL.numL_step (by omega), TL.numL_step (by omega), TL.numL_lt (by omega), show r / 10 / 10 / 10 = r / 1000 by omega, show r / 10 / 10 = r / 100 by omega]
    rfl
def four (r : Nat) : List Nat := [48 + r / 1000, 48 + r / 100 % 10, 48 + r / 10 % 10, 48 + r % 10]
theorem zfill_S {r : Nat} (h : r < 10000) : Txt.zfill (SX.S (TL.numL r)) 4 = SX.S (four r) := by
  unfold Txt.zfill four
  rw [← numL_pad h, SX.S_len]
  split
  · rename_i hl
    rw [show 4 - (TL.numL r).length = 0 by omega]
    rfl
  · unfold zfilled
    have hd := TL.numL_digits r
    cases e : TL.numL r with
    | nil => exact absurd e (TL.numL_ne r)
    | cons c t =>
      have hc := hd c (by rw [e]; exact List.mem_cons_self)
      have eg : (SX.S (c :: t)).cps[0]? = some c := rfl
      have e43 : ¬ c = 43 := by omega
      have e45 : ¬ c = 45 := by omega
      rw [eg]
      split
      · rename_i h; exact absurd (Option.some.inj h) e43
      · rename_i h; exact absurd (Option.some.inj h) e45
      · rw [Builtin.Str.padded.eq_1]
        apply TL.ext_tl
        rw [tl_S]
        show ((Array.replicate _ 48 ++ (SX.S (c :: t)).cps ++ Array.replicate 0 0) : Array Nat).toList = _
        simp [SX.S]
def dtx (n : Int) : List Nat := (if n < 0 then [45] else []) ++ (TL.numL (n.natAbs / 10000) ++ (if n.natAbs % 10000 = 0 then [] else 46 :: noE (four (n.natAbs % 10000))))

def formsS : List Str := ["plain", "constant", "runs", "dictionary", "packed", "deltas"]
def topS (i : Nat) : Stmt := PySem.Challenge.pw_stylobate_k45_encoded_columns.main.body.getD i (.Pass ⟨0, 0, 0, 0⟩)
abbrev s_width_for : Stmt := topS 1
abbrev n_width_for : List Str := ["number"]
theorem sc_width_for : FnScope n_width_for ["number"] (C8.fnScope s_width_for) := C8.fnScope_by (by decide +kernel)
abbrev s_pack : Stmt := topS 2
abbrev n_pack : List Str := ["numbers", "width", "bits", "number"]
theorem sc_pack : FnScope n_pack ["numbers", "width"] (C8.fnScope s_pack) := C8.fnScope_by (by decide +kernel)
abbrev s_unpack : Stmt := topS 3
abbrev n_unpack : List Str := ["bits", "width", "count", "mask", "at"]
theorem sc_unpack : FnScope n_unpack ["bits", "width", "count"] (C8.fnScope s_unpack) := C8.fnScope_by (by decide +kernel)
abbrev s_kind_rank : Stmt := topS 5
abbrev n_kind_rank : List Str := ["value"]
theorem sc_kind_rank : FnScope n_kind_rank ["value"] (C8.fnScope s_kind_rank) := C8.fnScope_by (by decide +kernel)
abbrev s_is_integer : Stmt := topS 6
abbrev n_is_integer : List Str := ["value"]
theorem sc_is_integer : FnScope n_is_integer ["value"] (C8.fnScope s_is_integer) := C8.fnScope_by (by decide +kernel)
abbrev s_rank : Stmt := topS 7
abbrev n_rank : List Str := ["value", "kind"]
theorem sc_rank : FnScope n_rank ["value"] (C8.fnScope s_rank) := C8.fnScope_by (by decide +kernel)
abbrev s_same : Stmt := topS 8
abbrev n_same : List Str := ["first", "second"]
theorem sc_same : FnScope n_same ["first", "second"] (C8.fnScope s_same) := C8.fnScope_by (by decide +kernel)
abbrev s__plain : Stmt := topS 11
abbrev n__plain : List Str := ["present"]
theorem sc__plain : FnScope n__plain ["present"] (C8.fnScope s__plain) := C8.fnScope_by (by decide +kernel)
abbrev s__constant : Stmt := topS 12
abbrev n__constant : List Str := ["present", "value"]
theorem sc__constant : FnScope n__constant ["present"] (C8.fnScope s__constant) := C8.fnScope_by (by decide +kernel)
abbrev s__runs : Stmt := topS 13
abbrev n__runs : List Str := ["present", "pairs", "value"]
theorem sc__runs : FnScope n__runs ["present"] (C8.fnScope s__runs) := C8.fnScope_by (by decide +kernel)
abbrev s__dictionary : Stmt := topS 14
abbrev n__dictionary : List Str := ["present", "places", "words", "value", "key", "width", "bits"]
theorem sc__dictionary : FnScope n__dictionary ["present"] (C8.fnScope s__dictionary) := C8.fnScope_by (by decide +kernel)
abbrev s__packed_above : Stmt := topS 15
abbrev n__packed_above : List Str := ["least", "numbers", "rests", "width", "number"]
theorem sc__packed_above : FnScope n__packed_above ["least", "numbers"] (C8.fnScope s__packed_above) := C8.fnScope_by (by decide +kernel)
abbrev s__are_integers : Stmt := topS 16
abbrev n__are_integers : List Str := ["present", "value"]
theorem sc__are_integers : FnScope n__are_integers ["present"] (C8.fnScope s__are_integers) := C8.fnScope_by (by decide +kernel)
abbrev s__packed : Stmt := topS 17
abbrev n__packed : List Str := ["present", "least", "width", "bits"]
theorem sc__packed : FnScope n__packed ["present"] (C8.fnScope s__packed) := C8.fnScope_by (by decide +kernel)
abbrev s__deltas : Stmt := topS 18
abbrev n__deltas : List Str := ["present", "steps", "least", "width", "bits", "at"]
theorem sc__deltas : FnScope n__deltas ["present"] (C8.fnScope s__deltas) := C8.fnScope_by (by decide +kernel)
abbrev s_body_of : Stmt := topS 20
abbrev n_body_of : List Str := ["form", "present", "action"]
theorem sc_body_of : FnScope n_body_of ["form", "present"] (C8.fnScope s_body_of) := C8.fnScope_by (by decide +kernel)
abbrev s__runs_values : Stmt := topS 21
abbrev n__runs_values : List Str := ["pairs", "found", "value", "count"]
theorem sc__runs_values : FnScope n__runs_values ["pairs"] (C8.fnScope s__runs_values) := C8.fnScope_by (by decide +kernel)
abbrev s__deltas_values : Stmt := topS 22
abbrev n__deltas_values : List Str := ["first", "least", "steps", "found", "step"]
theorem sc__deltas_values : FnScope n__deltas_values ["first", "least", "steps"] (C8.fnScope s__deltas_values) := C8.fnScope_by (by decide +kernel)
abbrev s_values_of : Stmt := topS 23
abbrev n_values_of : List Str := ["body", "form", "_", "words", "count", "width", "bits", "least", "first", "index", "rest"]
theorem sc_values_of : FnScope n_values_of ["body"] (C8.fnScope s_values_of) := C8.fnScope_by (by decide +kernel)
abbrev s__are_alike : Stmt := topS 25
abbrev n__are_alike : List Str := ["first", "second", "one", "other"]
theorem sc__are_alike : FnScope n__are_alike ["first", "second"] (C8.fnScope s__are_alike) := C8.fnScope_by (by decide +kernel)
abbrev s_Encoded____init__ : Stmt := (C8.clsBody (topS 26)).getD 0 (.Pass ⟨0, 0, 0, 0⟩)
abbrev n_Encoded____init__ : List Str := ["self", "length", "mask", "body"]
theorem sc_Encoded____init__ : FnScope n_Encoded____init__ ["self", "length", "mask", "body"] (C8.fnScope s_Encoded____init__) := C8.fnScope_by (by decide +kernel)
abbrev s_Encoded__form : Stmt := (C8.clsBody (topS 26)).getD 1 (.Pass ⟨0, 0, 0, 0⟩)
abbrev n_Encoded__form : List Str := ["self"]
theorem sc_Encoded__form : FnScope n_Encoded__form ["self"] (C8.fnScope s_Encoded__form) := C8.fnScope_by (by decide +kernel)
abbrev s_Encoded__decoded : Stmt := (C8.clsBody (topS 26)).getD 2 (.Pass ⟨0, 0, 0, 0⟩)
abbrev n_Encoded__decoded : List Str := ["self", "present", "found", "at", "is_none"]
theorem sc_Encoded__decoded : FnScope n_Encoded__decoded ["self"] (C8.fnScope s_Encoded__decoded) := C8.fnScope_by (by decide +kernel)
abbrev s_Encoded____eq__ : Stmt := (C8.clsBody (topS 26)).getD 3 (.Pass ⟨0, 0, 0, 0⟩)
abbrev n_Encoded____eq__ : List Str := ["self", "other"]
theorem sc_Encoded____eq__ : FnScope n_Encoded____eq__ ["self", "other"] (C8.fnScope s_Encoded____eq__) := C8.fnScope_by (by decide +kernel)
abbrev s_encode_as : Stmt := topS 27
abbrev n_encode_as : List Str := ["form", "values", "present", "body", "mask", "value"]
theorem sc_encode_as : FnScope n_encode_as ["form", "values"] (C8.fnScope s_encode_as) := C8.fnScope_by (by decide +kernel)
abbrev s__law_cell : Stmt := topS 29
abbrev n__law_cell : List Str := ["script", "k"]
theorem sc__law_cell : FnScope n__law_cell ["script", "k"] (C8.fnScope s__law_cell) := C8.fnScope_by (by decide +kernel)
abbrev s__law_state : Stmt := topS 30
abbrev n__law_state : List Str := ["cell", "k", "prime", "first", "second", "third", "fourth"]
theorem sc__law_state : FnScope n__law_state ["cell", "k"] (C8.fnScope s__law_state) := C8.fnScope_by (by decide +kernel)
abbrev s__law_digit : Stmt := topS 31
abbrev n__law_digit : List Str := ["state", "many", "digit"]
theorem sc__law_digit : FnScope n__law_digit ["state", "many"] (C8.fnScope s__law_digit) := C8.fnScope_by (by decide +kernel)
abbrev s__law_is_integer : Stmt := topS 32
abbrev n__law_is_integer : List Str := ["told"]
theorem sc__law_is_integer : FnScope n__law_is_integer ["told"] (C8.fnScope s__law_is_integer) := C8.fnScope_by (by decide +kernel)
abbrev s__law_rank : Stmt := topS 33
abbrev n__law_rank : List Str := ["value"]
theorem sc__law_rank : FnScope n__law_rank ["value"] (C8.fnScope s__law_rank) := C8.fnScope_by (by decide +kernel)
abbrev s__law_text : Stmt := topS 34
abbrev n__law_text : List Str := ["state", "signs", "k"]
theorem sc__law_text : FnScope n__law_text ["state"] (C8.fnScope s__law_text) := C8.fnScope_by (by decide +kernel)
abbrev s__law_value : Stmt := topS 35
abbrev n__law_value : List Str := ["state", "kind"]
theorem sc__law_value : FnScope n__law_value ["state"] (C8.fnScope s__law_value) := C8.fnScope_by (by decide +kernel)
abbrev s__law_values : Stmt := topS 36
abbrev n__law_values : List Str := ["script", "state", "kind", "values", "k", "value"]
theorem sc__law_values : FnScope n__law_values ["script"] (C8.fnScope s__law_values) := C8.fnScope_by (by decide +kernel)
abbrev s__law_possible : Stmt := topS 37
abbrev n__law_possible : List Str := ["form", "present", "integers", "value", "v"]
theorem sc__law_possible : FnScope n__law_possible ["form", "present"] (C8.fnScope s__law_possible) := C8.fnScope_by (by decide +kernel)
abbrev s__law_turned : Stmt := topS 38
abbrev n__law_turned : List Str := ["values", "turned", "k"]
theorem sc__law_turned : FnScope n__law_turned ["values"] (C8.fnScope s__law_turned) := C8.fnScope_by (by decide +kernel)
abbrev s__law_right : Stmt := topS 39
abbrev n__law_right : List Str := ["told", "form", "values", "mask", "back", "value"]
theorem sc__law_right : FnScope n__law_right ["told", "form", "values"] (C8.fnScope s__law_right) := C8.fnScope_by (by decide +kernel)
abbrev s_law : Stmt := topS 40
abbrev n_law : List Str := ["script", "values", "present", "made", "form", "given", "told", "turned", "other", "value"]
theorem sc_law : FnScope n_law ["script"] (C8.fnScope s_law) := C8.fnScope_by (by decide +kernel)
/-! ### a list that is drawn from: its one object may change -/
def wo (p : Addr) (H : Hp) : Hp := fun a => if a = p then none else H a
theorem wo_self (p : Addr) (H : Hp) : wo p H p = none := if_pos rfl
theorem wo_ne {p a : Addr} {H : Hp} (h : a ≠ p) : wo p H a = H a := if_neg h
theorem wo_le (p : Addr) (H : Hp) : Ex (wo p H) H := fun a o h => by
  unfold wo at h
  split at h
  · cases h
  · exact h
theorem wx_of {p : Addr} {H H' : Hp} (e : Ex H H') : Ex (wo p H) H' := (wo_le p H).trans e
theorem wx_trans {p : Addr} {H1 H2 H3 : Hp} (a : Ex (wo p H1) H2) (b : Ex (wo p H2) H3) : Ex (wo p H1) H3 := fun x o h => b x o (by
  have hx : x ≠ p := fun z => by
    rw [z, wo_self] at h
    cases h
  rw [wo_ne hx]
  exact a x o h)
theorem wx_back {p : Addr} {H0 H1 H2 : Hp} (h : H0 p = none) (e : Ex H0 H1) (x : Ex (wo p H1) H2) : Ex H0 H2 := fun a o ha => x a o (by
  have hx : a ≠ p := fun z => by
    rw [z, h] at ha
    cases ha
  rw [wo_ne hx]
  exact e a o ha)
theorem wx_to {p : Addr} {H0 H1 : Hp} (h : H0 p = none) (e : Ex H0 H1) : Ex H0 (wo p H1) := wx_back h e (fun _ _ z => z)
theorem wx_mut {p : Addr} {H1 H2 : Hp} {o : HO} (e : Ex (wo p H1) H2) : Ex (wo p H1) (upd H2 p o) := Ex.mut e (wo_self p H1)
def Dr (p : Addr) (H : Hp) : Prop := ∃ s : Int, 0 ≤ s ∧ H p = some (.lst [.int s])
theorem Dr.ex {p : Addr} {H H' : Hp} (d : Dr p H) (e : Ex H H') : Dr p H' := by
  obtain ⟨s, h0, h⟩ := d
  exact ⟨s, h0, e _ _ h⟩
/-- a value that is drawn: one of those with the word P -/
def EvD1 (te : TE) (σ : L2.St) (p : Addr) (H : Hp) (P : V → Prop) : Prop := ∀ H1, Ex (wo p H) H1 → Dr p H1 → ∀ Q : VK, (∀ v H2, P v → Ex (wo p H1) H2 → Dr p H2 → Q v H2) → te σ H1 Q
def EvDT (tt : TT) (σ : L2.St) (p : Addr) (H : Hp) (P : Bool → Prop) : Prop := ∀ H1, Ex (wo p H) H1 → Dr p H1 → ∀ Q : Bool → Hp → Prop, (∀ b H2, P b → Ex (wo p H1) H2 → Dr p H2 → Q b H2) → tt σ H1 Q
def ZP (P : Int → Prop) : V → Prop := fun v => ∃ i, v = .int i ∧ P i
/-- a value of which a word alone is known, all else as it was -/
def EvN (te : TE) (σ : L2.St) (H : Hp) (P : V → Prop) : Prop := ∀ H1, Ex H H1 → ∀ Q : VK, (∀ v H2, P v → Ex H1 H2 → Q v H2) → te σ H1 Q
/-- a new list to draw from -/
def EvC (te : TE) (σ : L2.St) (H : Hp) : Prop := ∀ H1, Ex H H1 → ∀ Q : VK, (∀ p H2, H1 p = none → Ex H1 H2 → Dr p H2 → Q (.ref p) H2) → te σ H1 Q
def sp__law_cell (K : PySem.W.Frag) : Sp := fun vs H Q _ => ∃ (a : Addr) (ns : List Int) (k : Int), vs = [.ref a, .int k] ∧ SqL K H a (ns.map V.int) ∧ 0 ≤ k ∧ ∀ H', Ex H H' → Q (.int (ns.getD k.toNat 0)) H'
def sp__law_state (K : PySem.W.Frag) : Sp := fun vs H Q _ => ∃ c k : Int, vs = [.int c, .int k] ∧ ∀ p H', H p = none → Ex H H' → Dr p H' → Q (.ref p) H'
def sp__law_digit (K : PySem.W.Frag) : Sp := fun vs H Q _ => ∃ (p : Addr) (m : Int), vs = [.ref p, .int m] ∧ Dr p H ∧ 0 < m ∧ m < 2 ^ 400 ∧ ∀ d H', 0 ≤ d → d < m → Ex (wo p H) H' → Dr p H' → Q (.int d) H'
section
variable {K : PySem.W.Frag} {σ : L2.St} {H H' : Hp} {p : Addr} {ta tb te tx : TE} {t u : TT} {x y z v : V} {r : R2} {P R S : V → Prop} {PI RI SI : Int → Prop} {D : Ends} {tz tu tw : TS} {E : XK}
theorem e1_pure (h : Ev te σ (wo p H) v) (hv : P v) : EvD1 te σ p H P := fun H1 e d Q q => h H1 e Q fun H2 e2 => q v H2 hv (wx_of e2) (d.ex e2)
theorem e1_int {i : Int} (h : Ev te σ (wo p H) (.int i)) (hv : PI i) : EvD1 te σ p H (ZP PI) := e1_pure h ⟨i, rfl, hv⟩
theorem e1_mono (h : EvD1 te σ p H P) (k : ∀ v, P v → R v) : EvD1 te σ p H R := fun H1 e d Q q => h H1 e d Q fun v H2 hv e2 d2 => q v H2 (k v hv) e2 d2
theorem ez_mono (h : EvD1 te σ p H (ZP PI)) (k : ∀ i, PI i → RI i) : EvD1 te σ p H (ZP RI) := e1_mono h fun v ⟨i, e, hi⟩ => ⟨i, e, k i hi⟩
theorem ez_op {C : Int → Int → Prop} {g : Int → Int → Int} (ha : EvD1 ta σ p H (ZP PI)) (hb : EvD1 tb σ p H (ZP RI)) (hc : ∀ i j, PI i → RI j → C i j ∧ SI (g i j)) : EvD1 (tOp (rI C fun i j => .int (g i j)) ta tb) σ p H (ZP SI) := fun H1 e d Q q =>
  ha H1 e d _ fun v H2 ⟨i, ev, hi⟩ e2 d2 => hb H2 (wx_trans e e2) d2 _ fun w H3 ⟨j, ew, hj⟩ e3 d3 => ⟨i, j, ev, ew, (hc i j hi hj).1, q _ H3 ⟨_, rfl, (hc i j hi hj).2⟩ (wx_trans e2 e3) d3⟩
theorem ez_op0 {g : Int → Int → Int} (ha : EvD1 ta σ p H (ZP PI)) (hb : EvD1 tb σ p H (ZP RI)) (hc : ∀ i j, PI i → RI j → SI (g i j)) : EvD1 (tOp (rI0 fun i j => .int (g i j)) ta tb) σ p H (ZP SI) := fun H1 e d Q q =>
  ha H1 e d _ fun v H2 ⟨i, ev, hi⟩ e2 d2 => hb H2 (wx_trans e e2) d2 _ fun w H3 ⟨j, ew, hj⟩ e3 d3 => ⟨i, j, ev, ew, q _ H3 ⟨_, rfl, hc i j hi hj⟩ (wx_trans e2 e3) d3⟩
theorem ez_cmp {g : Int → Int → Bool} (ha : EvD1 ta σ p H (ZP PI)) (hb : EvD1 tb σ p H (ZP RI)) : EvD1 (tOp (rI0 fun i j => .bl (g i j)) ta tb) σ p H (fun v => ∃ b, v = .bl b) := fun H1 e d Q q =>
  ha H1 e d _ fun v H2 ⟨i, ev, hi⟩ e2 d2 => hb H2 (wx_trans e e2) d2 _ fun w H3 ⟨j, ew, hj⟩ e3 d3 => ⟨i, j, ev, ew, q _ H3 ⟨_, rfl⟩ (wx_trans e2 e3) d3⟩
theorem ez_eq (ha : EvD1 ta σ p H (ZP PI)) (hb : EvD1 tb σ p H (ZP RI)) : EvD1 (tOp rEq ta tb) σ p H (fun v => ∃ b, v = .bl b) := fun H1 e d Q q =>
  ha H1 e d _ fun v H2 ⟨i, ev, hi⟩ e2 d2 => hb H2 (wx_trans e e2) d2 _ fun w H3 ⟨j, ew, hj⟩ e3 d3 => by
    subst ev ew
    exact ⟨rfl, q _ H3 ⟨_, rfl⟩ (wx_trans e2 e3) d3⟩
theorem ez_int (h : EvD1 ta σ p H (ZP PI)) : EvD1 (tCB (fun xs H Q => (∃ i, xs = [.int i] ∧ Q (.int i) H) ∨ ∃ k, xs = [.bl k] ∧ Q (.int (if k then 1 else 0)) H) (tCons ta tNil)) σ p H (ZP PI) :=
  fun H1 e d Q q => h H1 e d _ fun v H2 ⟨i, ev, hi⟩ e2 d2 => .inl ⟨i, by rw [ev], q _ H2 ⟨i, rfl, hi⟩ e2 d2⟩
/-- _law_digit(state, m) -/
theorem ez_digit {m : Int} (ha : Ev ta σ (wo p H) (.ref p)) (hb : Ev tb σ (wo p H) (.int m)) (h0 : 0 < m) (h1 : m < 2 ^ 400) : EvD1 (tCall (sp__law_digit K) [] E (tCons ta (tCons tb tNil))) σ p H (ZP fun d => 0 ≤ d ∧ d < m) := fun H1 e d Q q =>
  ha H1 e _ fun H2 e2 => hb H2 (e.trans e2) _ fun H3 e3 => ⟨p, m, rfl, d.ex (e2.trans e3), h0, h1, fun d H4 a b e4 d4 => q _ H4 ⟨d, rfl, a, b⟩ (wx_trans (wx_of (e2.trans e3)) e4) d4⟩
theorem edt_test (h : EvD1 te σ p H (fun v => ∃ b, v = .bl b)) : EvDT (tTest te) σ p H (fun _ => True) := fun H1 e d Q q => h H1 e d _ fun v H2 ⟨b, ev⟩ e2 d2 => ⟨b, ev, q b H2 trivial e2 d2⟩
theorem q1_asg {i : Nat} (h : EvD1 te σ p H P) (d : Dr p H) (k : ∀ v H1, P v → Ex (wo p H) H1 → Dr p H1 → tz D (σ.set i (some v)) H1) : tSeq (tAsg te (gName i)) tz D σ H := h H (wo_le p H) d _ fun v H1 hv e1 d1 => k v H1 hv e1 d1
theorem qz_asg {i : Nat} (h : EvD1 te σ p H (ZP PI)) (d : Dr p H) (k : ∀ (n : Int) H1, PI n → Ex (wo p H) H1 → Dr p H1 → tz D (σ.set i (some (.int n))) H1) : tSeq (tAsg te (gName i)) tz D σ H := q1_asg h d fun v H1 ⟨n, ev, hn⟩ e1 d1 => by
  subst ev
  exact k n H1 hn e1 d1
theorem s1_ret (h : EvD1 te σ p H P) (d : Dr p H) (k : ∀ v H1, P v → Ex (wo p H) H1 → Dr p H1 → D.rt v H1) : tRet te D σ H := h H (wo_le p H) d _ fun v H1 hv e1 d1 => k v H1 hv e1 d1
theorem q1_when (h : EvDT t σ p H (fun _ => True)) (d : Dr p H) (h1 : ∀ H1, Ex (wo p H) H1 → Dr p H1 → tu { D with nx := tz D } σ H1) (h2 : ∀ H1, Ex (wo p H) H1 → Dr p H1 → tz D σ H1) : tSeq (tIfS t tu tNext) tz D σ H := h H (wo_le p H) d _ fun b H1 _ e1 d1 => by
  cases b with
  | true =>
    show tu { D with nx := tz D } σ H1
    exact h1 H1 e1 d1
  | false =>
    show tz D σ H1
    exact h2 H1 e1 d1
/-- _law_cell(script, i), _law_state(cell, k) -/
theorem ec_cell {a : Addr} {ns : List Int} {k : Int} (ha : Ev ta σ H (.ref a)) (hb : Ev tb σ H (.int k)) (hS : SqL K H a (ns.map V.int)) (h0 : 0 ≤ k) : Ev (tCall (sp__law_cell K) [] E (tCons ta (tCons tb tNil))) σ H (.int (ns.getD k.toNat 0)) :=
  ev_call (ea_cons ha (ea_cons hb ea_nil)) fun H1 e Q q E => ⟨a, ns, k, rfl, ex_l e hS, h0, q⟩
theorem ec_state {c k : Int} (ha : Ev ta σ H (.int c)) (hb : Ev tb σ H (.int k)) : EvC (tCall (sp__law_state K) [] E (tCons ta (tCons tb tNil))) σ H := fun H1 e Q q =>
  ha H1 e _ fun H2 e2 => hb H2 (e.trans e2) _ fun H3 e3 => ⟨c, k, rfl, fun p H4 hp e4 d => q p H4 (fresh_back (e2.trans e3) hp) ((e2.trans e3).trans e4) d⟩
theorem q_asgC {i : Nat} (h : EvC te σ H) (k : ∀ p H1, H p = none → Ex H H1 → Dr p H1 → tz D (σ.set i (some (.ref p))) H1) : tSeq (tAsg te (gName i)) tz D σ H := h H (Ex.refl H) _ fun p H1 hp e d => k p H1 hp e d
theorem EvN.mono (e : Ex H H') (h : EvN te σ H P) : EvN te σ H' P := fun H1 a Q q => h H1 (e.trans a) Q q
theorem q_asgN {i : Nat} (h : EvN te σ H P) (k : ∀ v H1, P v → Ex H H1 → tz D (σ.set i (some v)) H1) : tSeq (tAsg te (gName i)) tz D σ H := h H (Ex.refl H) _ fun v H1 hv e => k v H1 hv e
theorem s_appN {l : Addr} {xs : List V} (hl : H l = some (.lst xs)) (ha : Ev ta σ H (.ref l)) (h : EvN te σ H P) (hz : xs.length < 100000) (k : ∀ v H1, P v → Ex H H1 → D.nx σ (upd H1 l (.lst (xs ++ [v])))) :
    tDrop (tBM K "list" rAppend ta (tCons te tNil)) D σ H := ha H (Ex.refl H) _ fun H1 e1 =>
  ⟨Or.inl ⟨rfl, xs, sq_of (e1 l _ hl)⟩, h H1 e1 _ fun v H2 hv e2 => ⟨l, xs, v, rfl, rfl, e2 l _ (e1 l _ hl), sz_lt hz, k v H2 hv (e1.trans e2)⟩⟩
end
section
variable {P : Program} {w : World} {K : PySem.W.Frag} {mg : Str → Option Value} {base : Heap}
theorem ok__law_cell (D : Dn K mg "_law_cell" s__law_cell ["script", "k"]) (z_len : mg "len" = none) :
    C8.Cal P w K mg base 1 "_law_cell" (sp__law_cell K) [] := by
  refine cal_of D sc__law_cell (fun vs H Q E h => ?_) (fun f cdv A outer s H vs Q E hr h => ?_)
  · obtain ⟨_, _, _, rfl, _⟩ := h
    rfl
  refine ⟨_, (pss_cons (ps_if (pt_cmpR op_lt (pv 1) (pe_callB call_len_seq (by rfl) z_len PySem.boot_len (pa_cons (pv 0) pa_nil)) (nomark _))
      (pss_one (ps_ret (pe_ix ix_list (pv 0) (pv 1) (fun _ _ => rfl))))
      pss_nil)
    (pss_one (ps_ret pe_int))), ?_⟩
  obtain ⟨a, ns, k, rfl, hS, h0, q⟩ := h
  refine q_when (b := decide (k < (((ns.map V.int).length : Nat) : Int))) (et_test (ev_op (ev_var rfl) (ev_len (ev_var rfl) hS) rv_I0)) (fun hb H1 e1 => ?_) fun hb H1 e1 => ?_
  · have hk : k.toNat < ns.length := by
      have := of_decide_eq_true hb
      rw [List.length_map] at this
      omega
    refine s_ret (v := .int (ns.getD k.toNat 0)) (ev_op (ev_var rfl) (ev_var rfl) (rv_ixL (ex_l e1 hS) ?_)) fun H2 e2 => q _ (e1.trans e2)
    obtain ⟨j, rfl⟩ := Int.eq_ofNat_of_zero_le h0
    rw [Int.toNat_natCast] at hk ⊢
    exact atI_nat (by rw [List.getElem?_map, List.getElem?_eq_getElem hk, List.getD_eq_getElem?_getD, List.getElem?_eq_getElem hk]; rfl)
  · have hk : ns.length ≤ k.toNat := by
      have := of_decide_eq_false hb
      rw [List.length_map] at this
      omega
    refine s_ret (v := .int (ns.getD k.toNat 0)) (ev_is ev_c ?_) fun H2 e2 => q _ (e1.trans e2)
    rw [List.getD_eq_getElem?_getD, List.getElem?_eq_none hk]
    rfl
theorem ok__law_state (D : Dn K mg "_law_state" s__law_state ["cell", "k"]) (z_int : mg "int" = none) :
    C8.Cal P w K mg base 1 "_law_state" (sp__law_state K) [] := by
  refine cal_of D sc__law_state (fun vs H Q E h => ?_) (fun f cdv A outer s H vs Q E hr h => ?_)
  · obtain ⟨_, _, rfl, _⟩ := h
    rfl
  refine ⟨_, (pss_cons (ps_if (pt_cmpR op_ge (pv 0) pe_int (nomark _))
      (pss_one (ps_ret (pe_lst (pa_cons (pv 0) pa_nil))))
      pss_nil)
    (pss_cons (ps_set (i := 2) sc__law_state.nd rfl (.inl rfl) pe_int)
    (pss_cons (ps_set (i := 3) sc__law_state.nd rfl (.inl rfl) (pe_op op_mod (pe_callTy call_int1 (by rfl) z_int (by decide +kernel) (pa_cons (pe_op op_add (pe_op op_add (pe_op op_mul (pv 0) pe_int) (pe_op op_mul (pe_op op_add (pv 1) pe_int) pe_int)) pe_int) pa_nil)) (pv 2)))
    (pss_cons (ps_set (i := 4) sc__law_state.nd rfl (.inl rfl) (pe_op op_mod (pe_callTy call_int1 (by rfl) z_int (by decide +kernel) (pa_cons (pe_op op_add (pe_op op_add (pe_op op_mulX (pv 3) (pv 3)) (pe_op op_mul pe_int (pv 3))) (pv 1)) pa_nil)) (pv 2)))
    (pss_cons (ps_set (i := 5) sc__law_state.nd rfl (.inl rfl) (pe_op op_mod (pe_callTy call_int1 (by rfl) z_int (by decide +kernel) (pa_cons (pe_op op_add (pe_op op_add (pe_op op_mul (pv 4) pe_int) (pe_op op_mul (pv 3) pe_int)) pe_int) pa_nil)) (pv 2)))
    (pss_cons (ps_set (i := 6) sc__law_state.nd rfl (.inl rfl) (pe_op op_mod (pe_callTy call_int1 (by rfl) z_int (by decide +kernel) (pa_cons (pe_op op_add (pe_op op_mulX (pv 5) (pv 5)) (pv 4)) pa_nil)) (pv 2)))
    (pss_one (ps_ret (pe_lst (pa_cons (pe_op op_add (pe_op op_mul (pe_op op_add (pe_op op_mul (pe_op op_add (pe_op op_mul (pv 6) (pv 2)) (pv 5)) (pv 2)) (pv 4)) (pv 2)) (pv 3)) pa_nil)))))))))), ?_⟩
  obtain ⟨c, k, rfl, q⟩ := h
  refine q_when (b := decide (c ≥ 1000000000000000000)) (et_test (ev_op (ev_var rfl) ev_c rv_I0)) (fun hb H1 e1 => ?_) fun hb H1 e1 => ?_
  · exact s_retL (el_lst (ea_cons (ev_var rfl) ea_nil) (by show 1 ≤ 100000; decide)) fun p H2 hp e2 h2 => q p H2 (fresh_back e1 hp) (e1.trans e2) ⟨c, by have := of_decide_eq_true hb; omega, h2⟩
  refine q_asg (v := .int 2305843009213693951) ev_c fun H2 e2 => ?_
  have mp : ∀ n : Int, 0 ≤ n % 2305843009213693951 ∧ n % 2305843009213693951 < 2305843009213693951 := fun n => by omega
  have mb : ∀ i j : Int, 0 ≤ i ∧ i < 2305843009213693951 → 0 ≤ j ∧ j < 2305843009213693951 → CMulX i j := fun i j hi hj => mulx_ok (a := 61) (b := 61) (by omega) (by omega) (by decide)
  refine q_asg (v := .int ((c * 6364136223 + (k + 1) * 104729 + 77) % 2305843009213693951)) ?_ fun H3 e3 => ?_
  · exact ev_op (ev_int (ev_op (ev_op (ev_op (ev_var rfl) ev_c (rv_I (.inr ⟨by decide, by decide⟩))) (ev_op (ev_op (ev_var rfl) ev_c rv_I0) ev_c (rv_I (.inr ⟨by decide, by decide⟩))) rv_I0) ev_c rv_I0)) (ev_var rfl) (rv_I (by decide))
  have h1 := mp (c * 6364136223 + (k + 1) * 104729 + 77)
  generalize (c * 6364136223 + (k + 1) * 104729 + 77) % 2305843009213693951 = f1 at *
  refine q_asg (v := .int ((f1 * f1 + 1013 * f1 + k) % 2305843009213693951)) ?_ fun H4 e4 => ?_
  · exact ev_op (ev_int (ev_op (ev_op (ev_op (ev_var rfl) (ev_var rfl) (rv_I (mb _ _ h1 h1))) (ev_op ev_c (ev_var rfl) (rv_I (.inl ⟨by decide, by decide⟩))) rv_I0) (ev_var rfl) rv_I0)) (ev_var rfl) (rv_I (by decide))
  have h2 := mp (f1 * f1 + 1013 * f1 + k)
  generalize (f1 * f1 + 1013 * f1 + k) % 2305843009213693951 = f2 at *
  refine q_asg (v := .int ((f2 * 48271 + f1 * 31 + 9) % 2305843009213693951)) ?_ fun H5 e5 => ?_
  · exact ev_op (ev_int (ev_op (ev_op (ev_op (ev_var rfl) ev_c (rv_I (.inr ⟨by decide, by decide⟩))) (ev_op (ev_var rfl) ev_c (rv_I (.inr ⟨by decide, by decide⟩))) rv_I0) ev_c rv_I0)) (ev_var rfl) (rv_I (by decide))
  have h3 := mp (f2 * 48271 + f1 * 31 + 9)
  generalize (f2 * 48271 + f1 * 31 + 9) % 2305843009213693951 = f3 at *
  refine q_asg (v := .int ((f3 * f3 + f2) % 2305843009213693951)) ?_ fun H6 e6 => ?_
  · exact ev_op (ev_int (ev_op (ev_op (ev_var rfl) (ev_var rfl) (rv_I (mb _ _ h3 h3))) (ev_var rfl) rv_I0)) (ev_var rfl) (rv_I (by decide))
  have h4 := mp (f3 * f3 + f2)
  generalize (f3 * f3 + f2) % 2305843009213693951 = f4 at *
  refine s_retL (xs := [.int (((f4 * 2305843009213693951 + f3) * 2305843009213693951 + f2) * 2305843009213693951 + f1)]) (el_lst (ea_cons ?_ ea_nil) (by show 1 ≤ 100000; decide)) fun p H7 hp e7 h7 => ?_
  · exact ev_op (ev_op (ev_op (ev_op (ev_op (ev_op (ev_var rfl) (ev_var rfl) (rv_I (.inr ⟨by decide, by decide⟩))) (ev_var rfl) rv_I0) (ev_var rfl) (rv_I (.inr ⟨by decide, by decide⟩))) (ev_var rfl) rv_I0) (ev_var rfl) (rv_I (.inr ⟨by decide, by decide⟩))) (ev_var rfl) rv_I0
  have x6 := ((((e1.trans e2).trans e3).trans e4).trans e5).trans e6
  exact q p H7 (fresh_back x6 hp) (x6.trans e7) ⟨_, by omega, h7⟩
theorem ok__law_digit (D : Dn K mg "_law_digit" s__law_digit ["state", "many"]) (z_int : mg "int" = none) :
    C8.Cal P w K mg base 1 "_law_digit" (sp__law_digit K) [] := by
  refine cal_of D sc__law_digit (fun vs H Q E h => ?_) (fun f cdv A outer s H vs Q E hr h => ?_)
  · obtain ⟨_, _, rfl, _⟩ := h
    rfl
  refine ⟨_, (pss_cons (ps_set (i := 2) sc__law_digit.nd rfl (.inl rfl) (pe_op op_mod (pe_callTy call_int1 (by rfl) z_int (by decide +kernel) (pa_cons (pe_ix ix_list (pv 0) pe_int (fun _ _ => rfl)) pa_nil)) (pv 1)))
    (pss_cons (ps_asg (pe_op op_fdivW (pe_ix ix_list (pv 0) pe_int (fun _ _ => rfl)) (pv 1)) (pg_sub (pv 0) pe_int set_list))
    (pss_one (ps_ret (pv 2))))), ?_⟩
  obtain ⟨p, m, rfl, ⟨s, s0, hp⟩, m0, m1, q⟩ := h
  refine q_asg (v := .int (s % m)) (ev_op (ev_int (ev_op (ev_var rfl) ev_c (rv_ixL (sq_of hp) rfl))) (ev_var rfl) (rv_I m0)) fun H1 e1 => ?_
  refine q_setL (v := .int (s / m)) (j := 0) (e1 _ _ hp) (ev_op (ev_op (ev_var rfl) ev_c (rv_ixL (sq_of (e1 _ _ hp)) rfl)) (ev_var rfl) (rv_I (wide_div (b := 400) m0 (by omega) (by decide) (by decide)))) (ev_var rfl) ev_c (by show 0 < 1; decide) fun H2 e2 => ?_
  exact s_ret (ev_var rfl) fun H3 e3 => q (s % m) H3 (Int.emod_nonneg _ (by omega)) (Int.emod_lt_of_pos _ m0) ((Ex.mut ((wo_le p H).trans (e1.trans e2)) (wo_self p H)).trans e3) ⟨s / m, Int.ediv_nonneg s0 (by omega), e3 _ _ upd_same⟩
end
section
variable {K : PySem.W.Frag} {σ : L2.St} {H : Hp} {p : Addr} {ta tb te : TE} {P : V → Prop} {D : Ends} {tz : TS}
/-- xs[i] = what is drawn -/
theorem q1_setL {l : Addr} {xs : List V} {j : Nat} (hl : wo p H l = some (.lst xs)) (h : EvD1 te σ p H P) (d : Dr p H) (ho : Ev ta σ (wo p H) (.ref l)) (hi : Ev tb σ (wo p H) (.int (j : Int))) (hj : j < xs.length) (k : ∀ v H1, P v → Ex (wo p H) H1 → Dr p H1 → tz D σ (upd H1 l (.lst (xs.set j v)))) :
    tSeq (tAsg te (gSub ta tb rSetL)) tz D σ H := h H (wo_le p H) d _ fun v H1 hv e1 d1 => ho H1 e1 _ fun H2 e2 => hi H2 (e1.trans e2) _ fun H3 e3 =>
  ⟨l, xs, (j : Int), j, rfl, rfl, ((e1.trans e2).trans e3) l _ hl, ixN_nat hj, k v H3 hv ((e1.trans e2).trans e3) (d1.ex (e2.trans e3))⟩
/-- a digit of a list that is new -/
theorem en_digit {m : Int} {E : XK} (ha : EvC ta σ H) (hb : Ev tb σ H (.int m)) (h0 : 0 < m) (h1 : m < 2 ^ 400) : EvN (tCall (sp__law_digit K) [] E (tCons ta (tCons tb tNil))) σ H (ZP fun d => 0 ≤ d ∧ d < m) := fun H1 e Q q =>
  ha H1 e _ fun p H2 hp e2 d2 => hb H2 (e.trans e2) _ fun H3 e3 => ⟨p, m, rfl, d2.ex e3, h0, h1, fun d H4 a b e4 _ => q _ H4 ⟨d, rfl, a, b⟩ (wx_back hp (e2.trans e3) e4)⟩
end
section
variable {K : PySem.W.Frag} {σ : L2.St} {H : Hp} {p : Addr} {te : TE} {t : TT} {P : V → Prop} {D : Ends} {tu : TS}
theorem s1_asg {i : Nat} (h : EvD1 te σ p H P) (d : Dr p H) (k : ∀ v H1, P v → Ex (wo p H) H1 → Dr p H1 → D.nx (σ.set i (some v)) H1) : tAsg te (gName i) D σ H := h H (wo_le p H) d _ fun v H1 hv e1 d1 => k v H1 hv e1 d1
theorem s1_when (h : EvDT t σ p H (fun _ => True)) (d : Dr p H) (h1 : ∀ H1, Ex (wo p H) H1 → Dr p H1 → tu D σ H1) (h2 : ∀ H1, Ex (wo p H) H1 → Dr p H1 → D.nx σ H1) : tIfS t tu tNext D σ H := h H (wo_le p H) d _ fun b H1 _ e1 d1 => by
  cases b with
  | true =>
    show tu D σ H1
    exact h1 H1 e1 d1
  | false =>
    show D.nx σ H1
    exact h2 H1 e1 d1
end

/-! ### lists compared, cut; list as a type -/
theorem cut_take {xs : List V} {m : Nat} (h : m ≤ xs.length) : cutV xs none (some (m : Int)) = xs.take m := by
  unfold cutV
  rw [HT.sIx_none, HT.sIx_nat, List.drop_zero, Nat.sub_zero, Nat.min_eq_left h]
theorem eqv_intsL : ∀ ns ms : List Int, PyData.eqv (.list (ns.map PyData.int)) (.list (ms.map PyData.int)) = decide (ns = ms)
  | [], [] => rfl
  | [], _ :: _ => rfl
  | _ :: _, [] => rfl
  | n :: r, m :: t => by
    have ih := eqv_intsL r t
    show ((n == m) && PyData.eqv (.list (r.map PyData.int)) (.list (t.map PyData.int))) = _
    rw [ih, Bool.eq_iff_iff, Bool.and_eq_true, decide_eq_true_eq, decide_eq_true_eq, beq_iff_eq, List.cons.injEq]
theorem rv_neL {K : PySem.W.Frag} {H : Hp} {p q : Addr} {ns ms : List Int} (hp : SqL K H p (ns.map V.int)) (hq : SqL K H q (ms.map V.int)) : RV (rNeD K) (.ref p) (.ref q) H (.bl (!decide (ns = ms))) := fun H1 e Q k =>
  ⟨_, _, .lst (ex_l e hp) (dp_ints ns), .lst (ex_l e hq) (dp_ints ms), PySem.W.ke_shaped_ints _, PySem.W.ke_shaped_ints _, by rw [eqv_intsL]; exact k H1 (Ex.refl H1)⟩
theorem tx_lst {K : PySem.W.Frag} {H : Hp} {a : Addr} {xs : List V} (h : H a = some (.lst xs)) : ∀ H1, Ex H H1 → TyX K H1 (.ref a) (.type "list") := fun H1 e => .base (.lst (e _ _ h))
theorem given_all (n : Nat) (v : Nat → V) : given n (fun _ => true) v = (List.range n).map v := by
  unfold given
  rw [List.filter_eq_self.mpr (fun _ _ => rfl)]
theorem foldl_take {α β : Type} {f : β → α → β} {l : List α} {i : Nat} {x : α} {b : β} (h : l[i]? = some x) : (l.take (i + 1)).foldl f b = f ((l.take i).foldl f b) x := by
  rw [List.take_add_one, h, List.foldl_append]
  rfl
theorem ix_listK {X : Cx} {K : PySem.W.Frag} (h : X.K = K) : IxR X (rIxL K) := h ▸ ix_list
theorem call_len_seqK {X : Cx} {K : PySem.W.Frag} (h : X.K = K) : CallR X (.builtin "len") (fun xs H Q => ∃ p ys, xs = [V.ref p] ∧ (SqL K H p ys ∨ SqT K H p ys) ∧ Q (V.int ys.length) H) := h ▸ call_len_seq
theorem ix_tupK {X : Cx} {K : PySem.W.Frag} (h : X.K = K) : IxR X (rIxT K) := h ▸ ix_tup

/-! ### signs -/
def signsL : List Nat := (PySem.Str.ofString " !\"#$&'()*+,-./0123456789:;<=>?@ABCDEFGHIJKLMNOPQRSTUVWXYZ[\\]^_`abcdefghijklmnopqrstuvwxyz{|}~").cps.toList
def fewL : List Nat := (PySem.Str.ofString "ab*?\\ -'\"A").cps.toList
theorem signs_len : signsL.length = 94 := by decide +kernel
theorem few_len : fewL.length = 10 := by decide +kernel
theorem signs_ok : ∀ c ∈ signsL, 32 ≤ c ∧ c ≤ 126 := by decide +kernel
theorem few_ok : ∀ c ∈ fewL, 32 ≤ c ∧ c ≤ 126 := by decide +kernel
def okC (c : Nat) : Prop := 32 ≤ c ∧ c ≤ 126
theorem join_ones : ∀ l : List Nat, Txt.join (SX.S []) (l.map fun c => (⟨#[c]⟩ : Str)) = SX.S l := by
  intro l
  have e : (l.map fun c => (⟨#[c]⟩ : Str)) = (l.map fun c => [c]).map SX.S := by
    rw [List.map_map]
    rfl
  rw [e, SX.join_S]
  congr 1
  induction l with
  | nil => rfl
  | cons c r ih =>
    cases r with
    | nil => rfl
    | cons d r => 
      have e2 : TL.joinL [] (List.map (fun c => [c]) (c :: d :: r)) = c :: TL.joinL [] (List.map (fun c => [c]) (d :: r)) := rfl
      rw [e2, ih (by rw [List.map_map]; rfl)]

/-! ### texts as lists of codes: further words -/
theorem c48 : PySem.Str.ofString "0" = SX.S [48] := by decide +kernel
theorem c45 : PySem.Str.ofString "-" = SX.S [45] := by decide +kernel
theorem c46 : PySem.Str.ofString "." = SX.S [46] := by decide +kernel
theorem c00 : PySem.Str.ofString "" = SX.S [] := by decide +kernel
theorem mt_ljustF {X : Cx} : MtR X "str.ljust" fun x xs H Q => ∃ (a f : Str) (i : Int), x = .str a ∧ xs = [.int i, .str f] ∧ PadOk i = true ∧ f.length = 1 ∧ Q (.str (Txt.ljustF a i (f.cps.getD 0 0))) H := by
  intro pins s σ H x xs v us Q I rx rv h
  obtain ⟨a, f, i, rfl, rfl, hp, hf, q⟩ := h
  obtain ⟨t, rfl⟩ := (show ∃ t, v = Value.str a t from rx)
  cases rv with
  | cons r1 rv =>
    cases rv with
    | cons r2 rv =>
      cases rv
      obtain ⟨u, rfl⟩ := r1
      obtain ⟨u2, rfl⟩ := r2
      exact ljust_fill hp hf fun t' k => ⟨.str _, H, I.tok k, ⟨t', rfl⟩, q⟩
section
variable {K : PySem.W.Frag} {σ : L2.St} {H : Hp} {D : Ends} {te ta tl th tb : TE}
theorem ev_m0 {r : V → List V → Hp → VK → Prop} {a : Str} {z : V} (h : Ev ta σ H (.str a)) (hr : ∀ H1 Q, (∀ H2, Ex H1 H2 → Q z H2) → r (.str a) [] H1 Q) : Ev (tM0 r ta) σ H z := fun H1 e Q q => h H1 e _ fun H2 e2 => ⟨⟨_, rfl⟩, hr H2 Q fun H3 e3 => q H3 (e2.trans e3)⟩
theorem ev_m1 {r : V → List V → Hp → VK → Prop} {a : Str} {y z : V} (h : Ev ta σ H (.str a)) (hb : Ev tb σ H y) (hr : ∀ H1 Q, (∀ H2, Ex H1 H2 → Q z H2) → r (.str a) [y] H1 Q) : Ev (tM1 r ta tb) σ H z := fun H1 e Q q =>
  h H1 e _ fun H2 e2 => ⟨⟨_, rfl⟩, hb H2 (e.trans e2) _ fun H3 e3 => hr H3 Q fun H4 e4 => q H4 ((e2.trans e3).trans e4)⟩
theorem ev_bmS {r : V → List V → Hp → VK → Prop} {a : Str} {z : V} {tr : TA} {ys : List V} (h : Ev ta σ H (.str a)) (hb : EvA tr σ H ys) (hr : ∀ H1 Q, (∀ H2, Ex H1 H2 → Q z H2) → r (.str a) ys H1 Q) : Ev (tBM K "str" r ta tr) σ H z := fun H1 e Q q =>
  h H1 e _ fun H2 e2 => ⟨rfl, hb H2 (e.trans e2) _ fun H3 e3 => hr H3 Q fun H4 e4 => q H4 ((e2.trans e3).trans e4)⟩
theorem ev_intS {a : Str} {n : Int} (h : Ev ta σ H (.str a)) (hn : intText? a = some n) (hl : a.length ≤ 640) : Ev (tCB (fun xs H Q => ∃ a n, xs = [.str a] ∧ intText? a = some n ∧ a.length ≤ 640 ∧ Q (.int n) H) (tCons ta tNil)) σ H (.int n) := fun H1 e Q q =>
  h H1 e _ fun H2 e2 => ⟨a, n, rfl, hn, hl, q H2 e2⟩
theorem ev_slF {to : TO} {l : List Nat} {i : Nat} (ha : Ev ta σ H (.str (SX.S l))) (hl : Ev tl σ H (.int (i : Int))) (hn : ∀ σ H Q, Q none H → to σ H Q) (hz : l.length ≤ 100000) : Ev (tSl C8.rSlX ta (tPart tl) to) σ H (.str (SX.S (l.drop i))) := fun H1 e Q q =>
  ha H1 e _ fun H2 e2 => hl H2 (e.trans e2) _ fun H3 e3 => ⟨_, rfl, hn _ _ _ ⟨SX.S l, rfl, by rw [SX.S_len]; exact sz_of hz, by rw [SX.slice_from (by omega), Int.toNat_natCast]; exact q H3 (e2.trans e3)⟩⟩
theorem eu_part {a b : Str} (ha : Ev ta σ H (.str a)) (hb : Ev tb σ H (.str b)) (h1 : (b.length == 0) = false) (hz : a.length ≤ 100000) : EvU (tM1 (fun x xs H Q => ∃ a b, x = .str a ∧ xs = [.str b] ∧ (b.length == 0) = false ∧ a.length ≤ sizeLine ∧ ∀ p, H p = none → Q (.ref p) (upd H p (.tup [.str (Txt.partition a b).1, .str (Txt.partition a b).2.1, .str (Txt.partition a b).2.2]))) ta tb) σ H [.str (Txt.partition a b).1, .str (Txt.partition a b).2.1, .str (Txt.partition a b).2.2] := fun H1 e Q q =>
  ha H1 e _ fun H2 e2 => ⟨⟨_, rfl⟩, hb H2 (e.trans e2) _ fun H3 e3 => ⟨a, b, rfl, rfl, h1, sz_of hz, fun p hp => q p _ (fresh_back (e2.trans e3) hp) ((e2.trans e3).trans (Ex.new hp)) upd_same⟩⟩
end
theorem js_str {t : TE} {ts : List TE} {acc y : Str} {σ : L2.St} {H : Hp} {Q : Str → Hp → Prop} (h : Ev t σ H (.str y)) (hz : (acc ++ y).length ≤ 100000) (k : ∀ H1, Ex H H1 → tJs ts (acc ++ y) σ H1 Q) : tJs (t :: ts) acc σ H Q := h H (Ex.refl H) _ fun H1 e1 => ⟨y, rfl, sz_of hz, k H1 e1⟩
theorem pre1 {c : Nat} {l : List Nat} {i : Nat} : TL.pre [c] (l.drop i) = true ↔ l[i]? = some c := by
  by_cases h : i < l.length
  · rw [List.drop_eq_getElem_cons h, List.getElem?_eq_getElem h]
    constructor
    · intro e
      by_cases e2 : l[i] = c
      · rw [e2]
      · rw [TL.pre_of_head [] _ e2] at e
        exact nomatch e
    · intro e
      rw [Option.some.inj e]
      exact TL.pre_self [c] _
  · rw [List.drop_eq_nil_of_le (by omega), List.getElem?_eq_none (by omega), TL.pre_nil (List.cons_ne_nil _ _)]
    simp
theorem find1 (l : List Nat) (c : Nat) : (Txt.find (SX.S l) (SX.S [c]) = -1 ∧ ∀ i : Nat, ¬ l[i]? = some c) ∨ ∃ i : Nat, Txt.find (SX.S l) (SX.S [c]) = (i : Int) ∧ l[i]? = some c ∧ ∀ k : Nat, k < i → ¬ l[k]? = some c := by
  have ha : ∀ i, StrLaws.At (SX.S l) (SX.S [c]) (SX.S l).length i ↔ l[i]? = some c := fun i => by
    rw [TL.at_iff (by rw [tl_S]; exact List.cons_ne_nil _ _), tl_S, tl_S, pre1]
  rcases StrLaws.occ_head (SX.S l) (SX.S [c]) 1 (Nat.le_refl 1) with ⟨h1, h2⟩ | ⟨i, r, h1, h2, h3⟩
  · refine .inl ⟨?_, fun i h => h2 i ((ha i).mpr h)⟩
    unfold Txt.find
    rw [h1]
  · refine .inr ⟨i, ?_, (ha i).mp h2, fun k hk h => h3 k hk ((ha k).mpr h)⟩
    unfold Txt.find
    rw [h1]
def tenL : List Nat := [48, 49, 50, 51, 52, 53, 54, 55, 56, 57]
theorem cTen : PySem.Str.ofString "0123456789" = SX.S tenL := by decide +kernel
theorem ten_at {i : Nat} (h : i < 10) : tenL[i]? = some (48 + i) := by
  have : ∀ i : Fin 10, tenL[i.1]? = some (48 + i.1) := by decide
  exact this ⟨i, h⟩
theorem ten_in {i c : Nat} (h : tenL[i]? = some c) : c = 48 + i ∧ i < 10 := by
  have hi : i < 10 := (List.getElem?_eq_some_iff.mp h).1
  rw [ten_at hi] at h
  exact ⟨(Option.some.inj h).symm, hi⟩
theorem find_ten (c : Nat) : (isD c = false ∧ Txt.find (SX.S tenL) (SX.S [c]) = -1) ∨ (isD c = true ∧ Txt.find (SX.S tenL) (SX.S [c]) = ((c - 48 : Nat) : Int)) := by
  rcases find1 tenL c with ⟨h1, h2⟩ | ⟨i, h1, h2, _⟩
  · refine .inl ⟨?_, h1⟩
    cases h : isD c with
    | false => rfl
    | true =>
      unfold isD at h
      rw [Bool.and_eq_true, decide_eq_true_eq, decide_eq_true_eq] at h
      exact absurd (by rw [ten_at (by omega), show 48 + (c - 48) = c by omega]) (h2 (c - 48))
  · obtain ⟨e, hi⟩ := ten_in h2
    refine .inr ⟨?_, by rw [h1, show c - 48 = i by omega]⟩
    unfold isD
    rw [decide_eq_true (by omega), decide_eq_true (by omega)]
    rfl
section
variable {σ : L2.St} {H : Hp} {ta tb tl : TE} {K : PySem.W.Frag}
theorem ev_ixN {xs : List V} {i : Int} {v : V} (ha : EvL ta σ H xs) (hb : Ev tb σ H (.int i)) (hi : atI xs i = some v) : Ev (tOp (rIxL K) ta tb) σ H v := fun H1 e Q q =>
  ha H1 e _ fun p H2 hp e2 h2 => hb H2 (e.trans e2) _ fun H3 e3 => rv_ixL (sq_of (e3 _ _ h2)) hi H3 (Ex.refl H3) Q fun H4 e4 => q H4 ((e2.trans e3).trans e4)
theorem ev_ten {i : Nat} (h : i < 10) (hb : Ev tb σ H (.int (i : Int))) : Ev (tOp rIxS (tC (.str (PySem.Str.ofString "0123456789"))) tb) σ H (.str (SX.S [48 + i])) :=
  ev_op (x := .str (SX.S tenL)) (ev_is ev_c (by rw [cTen])) hb (rv_ixS (by decide) (atI_nat (ten_at h)))
theorem ev_slT {to : TO} {l : List Nat} {i : Nat} (ha : Ev ta σ H (.str (SX.S l))) (hn : ∀ σ H Q, Q none H → to σ H Q) (hl : Ev tl σ H (.int (i : Int))) (hz : l.length ≤ 100000) : Ev (tSl C8.rSlX ta to (tPart tl)) σ H (.str (SX.S (l.take i))) := fun H1 e Q q =>
  ha H1 e _ fun H2 e2 => hn _ _ _ (hl H2 (e.trans e2) _ fun H3 e3 => ⟨_, rfl, SX.S l, rfl, by rw [SX.S_len]; exact sz_of hz, by rw [SX.slice_to (by omega), Int.toNat_natCast]; exact q H3 (e2.trans e3)⟩)
end
theorem ev_lenX {σ : L2.St} {H : Hp} {ta : TE} {w : List Nat} (ha : Ev ta σ H (.str (SX.S w))) (hz : w.length ≤ 100000) : Ev (tCB (fun xs H Q => ∃ z, xs = [.str z] ∧ z.length ≤ sizeLine ∧ Q (.int z.length) H) (tCons ta tNil)) σ H (.int (w.length : Int)) :=
  ev_is (ev_lenS ha (by rw [SX.S_len]; exact hz)) (by rw [SX.S_len])
section
variable {K : PySem.W.Frag} {σ : L2.St} {H : Hp} {ta tb : TE}
theorem ev_cat {a b : Str} (ha : Ev ta σ H (.str a)) (hb : Ev tb σ H (.str b)) (h : a.length + b.length ≤ 100000) : Ev (tOp (fun x y H Q => ∃ i j, x = .str i ∧ y = .str j ∧ i.length + j.length ≤ sizeLine ∧ Q (.str (i ++ j)) H) ta tb) σ H (.str (a ++ b)) := fun H1 e Q q =>
  ha H1 e _ fun H2 e2 => hb H2 (e.trans e2) _ fun H3 e3 => ⟨a, b, rfl, rfl, sz_of h, q H3 (e2.trans e3)⟩
end
section
variable {σ : L2.St} {H : Hp} {D : Ends} {tz : TS} {te : TE}
theorem q_forX {tu : TS} {j : Nat} {w : List Nat} (h : Ev te σ H (.str (SX.S w))) (Pv : Nat → L2.St → Hp → Prop) (h0 : ∀ H1, Ex H H1 → Pv 0 σ H1)
    (hs : ∀ (i : Nat) (c : Nat) σ' H', w[i]? = some c → Pv i σ' H' → tu { nx := Pv (i + 1), rt := D.rt, bk := tz D, ct := Pv (i + 1) } (σ'.set j (some (.str ⟨#[c]⟩))) H')
    (hd : ∀ σ' H', Pv w.length σ' H' → tz D σ' H') : tSeq (tFor (iStr te) (gName j) tu) tz D σ H := by
  have ec : ∀ i, (SX.S w).cps[i]? = w[i]? := fun i => List.getElem?_toArray
  have es : (SX.S w).cps.size = w.length := List.size_toArray
  refine h H (Ex.refl H) _ fun H1 e1 => ⟨SX.S w, rfl, fun i m σ' H' => Pv i σ' H' ∧ i ≤ w.length ∧ w.length - i ≤ m, ⟨_, h0 H1 e1, Nat.zero_le _, Nat.le_refl _⟩, fun i m σ' H' p => ?_⟩
  obtain ⟨p, hi, hm⟩ := p
  by_cases hlt : i < w.length
  · refine .inr ⟨by show i < (SX.S w).cps.size; omega, fun σ2 H2 => Pv (i + 1) σ2 H2, fun σ2 H2 q => ⟨m - 1, by omega, q, hlt, by omega⟩, ?_⟩
    rintro x H2 ⟨rfl, c, hc, rfl⟩
    rw [ec] at hc
    exact hs i c σ' _ hc p
  · refine .inl ⟨by show (SX.S w).cps.size ≤ i; omega, ?_⟩
    rw [show i = w.length by omega] at p
    exact hd _ _ p
theorem q_callG {sp : Sp} {dvs vs : List V} {E : XK} {tr : TA} {g : TG} (h : EvA tr σ H vs) (k : ∀ H1, Ex H H1 → sp (vs ++ dvs) H1 (fun x H2 => g x σ H2 (tz D)) E) : tSeq (tAsg (tCall sp dvs E tr) g) tz D σ H := h H (Ex.refl H) _ fun H1 e1 => k H1 e1
end
theorem slice_mid {a : List Nat} {i j : Nat} (h : i ≤ j) (hj : j ≤ a.length) : Txt.slice (SX.S a) (some (i : Int)) (some (j : Int)) = SX.S ((a.drop i).take (j - i)) := by
  rw [← C8.cutS_slice]
  unfold cutS
  rw [SX.S_len, HT.sIx_nat, HT.sIx_nat, Nat.min_eq_left hj, Nat.min_eq_left (show i ≤ a.length by omega)]
theorem ev_slM {σ : L2.St} {H : Hp} {ta tl th : TE} {l : List Nat} {i j : Nat} (ha : Ev ta σ H (.str (SX.S l))) (hl : Ev tl σ H (.int (i : Int))) (hh : Ev th σ H (.int (j : Int))) (h : i ≤ j) (hj : j ≤ l.length) (hz : l.length ≤ 100000) : Ev (tSl C8.rSlX ta (tPart tl) (tPart th)) σ H (.str (SX.S ((l.drop i).take (j - i)))) := fun H1 e Q q =>
  ha H1 e _ fun H2 e2 => hl H2 (e.trans e2) _ fun H3 e3 => ⟨_, rfl, hh H3 ((e.trans e2).trans e3) _ fun H4 e4 => ⟨_, rfl, SX.S l, rfl, by rw [SX.S_len]; exact sz_of hz, by rw [slice_mid h hj]; exact q H4 ((e2.trans e3).trans e4)⟩⟩
theorem q_par2 {σ : L2.St} {H : Hp} {ta : TA} {D : Ends} {tz : TS} {i j : Nat} {x y : V} (h : EvA ta σ H [x, y]) (k : ∀ H1, Ex H H1 → tz D ((σ.set i (some x)).set j (some y)) H1) : tSeq (tPar i j ta) tz D σ H := h H (Ex.refl H) _ fun H1 e => ⟨x, y, rfl, k H1 e⟩
theorem q_par3 {σ : L2.St} {H : Hp} {ta : TA} {D : Ends} {tz : TS} {i j l : Nat} {x y z : V} (h : EvA ta σ H [x, y, z]) (k : ∀ H1, Ex H H1 → tz D (((σ.set i (some x)).set j (some y)).set l (some z)) H1) : tSeq (tPar3 i j l ta) tz D σ H := h H (Ex.refl H) _ fun H1 e => ⟨x, y, z, rfl, k H1 e⟩

/-! ### texts and values that are drawn -/
def fewS : List Nat := (PySem.Str.ofString "abAB 19-'~").cps.toList
theorem fewS_len : fewS.length = 10 := by decide +kernel
theorem fewS_S : PySem.Str.ofString "abAB 19-'~" = SX.S fewS := by decide +kernel
theorem fewS_in : ∀ c ∈ fewS, c ∈ signsL := by decide +kernel
def EvLD1 (te : TE) (σ : L2.St) (p : Addr) (H : Hp) (P : List V → Prop) : Prop := ∀ H1, Ex (wo p H) H1 → Dr p H1 → ∀ Q : VK, (∀ l H2 xs, P xs → H1 l = none → Ex (wo p H1) H2 → Dr p H2 → H2 l = some (.lst xs) → Q (.ref l) H2) → te σ H1 Q
theorem dr_ne {p l : Addr} {H : Hp} (d : Dr p H) (h : H l = none) : p ≠ l := fun z => by
  obtain ⟨s, _, e⟩ := d
  rw [z, h] at e
  cases e
theorem Dr.upd {p l : Addr} {H : Hp} {o : HO} (d : Dr p H) (h : p ≠ l) : Dr p (upd H l o) := by
  obtain ⟨s, s0, e⟩ := d
  exact ⟨s, s0, by rw [upd_ne h]; exact e⟩
section
variable {K : PySem.W.Frag} {σ : L2.St} {H : Hp} {p : Addr} {ta tb te tn : TE} {R : V → Prop} {PI : Int → Prop} {D : Ends} {tz : TS}
/-- [what is drawn for k in range(a number that is drawn)] -/
theorem e1_lc {j : Nat} {vs : List Nat} {m : Int} (hn : EvD1 tn σ p H (ZP fun n => 0 ≤ n ∧ n ≤ m)) (hm : m ≤ 10000) (hw : ∀ x, wipe ((wipe σ vs).set j (some x)) vs = wipe σ vs)
    (he : ∀ i : Nat, EvD1 te ((wipe σ vs).set j (some (.int (i : Int)))) p H R) : EvLD1 (tLc (iRng1 (tCons tn tNil)) (gName j) tYes te vs) σ p H (fun xs => (xs.length : Int) ≤ m ∧ ∀ x ∈ xs, R x) := fun H0 e d Q q =>
  hn H0 e d _ fun v H1 ⟨n, ev, hn0, hn1⟩ e1 d1 => by
    subst ev
    refine ⟨n, rfl, by omega, by omega, fun Dl hD => ?_⟩
    have hpd : p ≠ Dl := dr_ne d1 hD
    refine lc_range (lo := 0) (n := n.toNat) (fun i H' => Ex (wo p H1) H' ∧ Dr p H' ∧ ∃ acc, H' Dl = some (.lst acc) ∧ acc.length = i ∧ ∀ x ∈ acc, R x) ⟨Ex.mut (wo_le p H1) (by rw [wo_ne (Ne.symm hpd)]; exact hD), d1.upd hpd, [], upd_same, rfl, fun x hx => by cases hx⟩ (fun i H' hi pv => ?_) (fun H' pv => ?_)
    · obtain ⟨p1, p2, acc, p3, p4, p5⟩ := pv
      have e0 : (0 : Int) + (i : Int) = (i : Int) := Int.zero_add _
      show wipe ((wipe σ vs).set j (some (.int ((0 : Int) + (i : Int))))) vs = wipe σ vs ∧ te ((wipe σ vs).set j (some (.int ((0 : Int) + (i : Int))))) H' fun y H4 => ∃ acc, H4 Dl = some (.lst acc) ∧ acc.length < sizeLine ∧ _
      rw [e0]
      refine ⟨hw _, he i H' (wx_trans e (wx_trans e1 p1)) p2 _ fun y H4 hy e4 d4 => ?_⟩
      refine ⟨acc, e4 Dl _ (by rw [wo_ne (Ne.symm hpd)]; exact p3), sz_lt (by omega), Ex.mut (wx_trans p1 e4) (by rw [wo_ne (Ne.symm hpd)]; exact hD), d4.upd hpd, acc ++ [y], upd_same, by rw [List.length_append, p4]; rfl, fun x hx => ?_⟩
      rcases List.mem_append.mp hx with h | h
      · exact p5 x h
      · rw [List.mem_singleton.mp h]
        exact hy
    · obtain ⟨p1, p2, acc, p3, p4, p5⟩ := pv
      have hD0 : H0 Dl = none := by
        cases z : H0 Dl with
        | none => rfl
        | some o =>
          have := e1 Dl o (by rw [wo_ne (Ne.symm hpd)]; exact z)
          rw [hD] at this
          cases this
      exact q Dl H' acc ⟨by omega, p5⟩ hD0 (wx_trans e1 p1) p2 p3
def oneS (L : List Nat) (v : V) : Prop := ∃ c, v = .str ⟨#[c]⟩ ∧ c ∈ L
theorem ones_of {L : List Nat} : ∀ {xs : List V}, (∀ x ∈ xs, oneS L x) → ∃ l : List Nat, xs = l.map (fun c => V.str ⟨#[c]⟩) ∧ ∀ c ∈ l, c ∈ L
  | [], _ => ⟨[], rfl, fun c hc => by cases hc⟩
  | x :: r, h => by
    obtain ⟨l, e, hl⟩ := ones_of (xs := r) fun y hy => h y (List.mem_cons_of_mem _ hy)
    obtain ⟨c, ec, hc⟩ := h x List.mem_cons_self
    refine ⟨c :: l, by rw [ec, e]; rfl, fun y hy => ?_⟩
    rcases List.mem_cons.mp hy with z | z
    · rw [z]; exact hc
    · exact hl y z
def txtP (L : List Nat) (m : Nat) (v : V) : Prop := ∃ l : List Nat, v = .str (SX.S l) ∧ l.length ≤ m ∧ ∀ c ∈ l, c ∈ L
/-- ''.join(a list of single signs) -/
theorem e1_join {L : List Nat} {m : Nat} (hm : m ≤ 10000) (h : EvLD1 te σ p H (fun xs => (xs.length : Int) ≤ (m : Int) ∧ ∀ x ∈ xs, oneS L x)) : EvD1 (tM1 (fun x xs H Q => ∃ a p, ∃ ys : List Str, x = .str a ∧ xs = [.ref p] ∧ (SqL K H p (ys.map V.str) ∨ SqT K H p (ys.map V.str)) ∧
      (ys.map (·.length)).sum + ys.length * a.length ≤ 16777216 ∧ Q (.str (Txt.join a ys)) H) (tC (.str (PySem.Str.ofString ""))) te) σ p H (txtP L m) := fun H1 e d Q q => by
  refine ⟨⟨_, rfl⟩, h H1 e d _ fun l H2 xs hP hl e2 d2 h2 => ?_⟩
  obtain ⟨hlen, hxs⟩ := hP
  obtain ⟨w, rfl, hw⟩ := ones_of hxs
  rw [List.length_map] at hlen
  have hw2 : w.length ≤ m := by omega
  refine ⟨SX.S [], l, w.map fun c => (⟨#[c]⟩ : Str), by rw [c00], rfl, .inl (sq_of ?_), ?_, ?_⟩
  · rw [h2, List.map_map]
    rfl
  · have e9 : (w.map fun c => (⟨#[c]⟩ : Str)).map (·.length) = List.replicate w.length 1 := by
      rw [List.map_map, List.eq_replicate_iff]
      refine ⟨by rw [List.length_map], fun b hb => ?_⟩
      obtain ⟨c, _, rfl⟩ := List.mem_map.mp hb
      rfl
    rw [e9, List.sum_replicate_nat, List.length_map]
    show w.length * 1 + w.length * 0 ≤ _
    omega
  · rw [join_ones]
    exact q _ H2 ⟨w, rfl, hw2, hw⟩ e2 d2
/-- signs[_law_digit(state, m)] -/
theorem e1_sign {L : List Nat} {m : Int} {E : XK} {i : Nat} (hs : σ[i]? = some (some (.str (SX.S L)))) (hL : (L.length : Int) = m) (h0 : 0 < m) (hm : m ≤ 1000) (ha : Ev ta σ (wo p H) (.ref p)) (hb : Ev tb σ (wo p H) (.int m)) : EvD1 (tOp rIxS (tVar i) (tCall (sp__law_digit K) [] E (tCons ta (tCons tb tNil)))) σ p H (oneS L) := fun H1 e d Q q =>
  ⟨.str (SX.S L), hs, ez_digit ha hb h0 (by omega) H1 e d _ fun v H2 ⟨n, ev, n0, n1⟩ e2 d2 => by
    subst ev
    obtain ⟨k, rfl⟩ := Int.eq_ofNat_of_zero_le n0
    have hk : k < L.length := by omega
    exact ⟨SX.S L, (k : Int), L[k], rfl, rfl, by rw [SX.S_len]; exact sz_of (by omega), atI_nat (List.getElem?_eq_getElem hk), q _ H2 ⟨L[k], rfl, List.getElem_mem hk⟩ e2 d2⟩⟩
end
/-- a value that is drawn -/
inductive DV : V → Prop where
  | non : DV .non
  | bl (b : Bool) : DV (.bl b)
  | int (i : Int) (h : -1000000000000000 ≤ i ∧ i ≤ 1000000000000000) : DV (.int i)
  | str (l : List Nat) (h : l.length ≤ 4) (hc : ∀ c ∈ l, c ∈ signsL) : DV (.str (SX.S l))
theorem DV.pl {x : V} (h : DV x) : Pl x := by cases h <;> constructor
def sp__law_text (K : PySem.W.Frag) : Sp := fun vs H Q _ => ∃ p : Addr, vs = [.ref p] ∧ Dr p H ∧ ∀ v H', txtP signsL 4 v → Ex (wo p H) H' → Dr p H' → Q v H'
def sp__law_value (K : PySem.W.Frag) : Sp := fun vs H Q _ => ∃ p : Addr, vs = [.ref p] ∧ Dr p H ∧ ∀ v H', DV v → Ex (wo p H) H' → Dr p H' → Q v H'
section
variable {P : Program} {w : World} {K : PySem.W.Frag} {mg : Str → Option Value} {base : Heap}
theorem ok__law_text (D : Dn K mg "_law_text" s__law_text ["state"]) (c__law_digit : C8.Cal P w K mg base 1 "_law_digit" (sp__law_digit K) []) (z_range : mg "range" = none) :
    C8.Cal P w K mg base 2 "_law_text" (sp__law_text K) [] := by
  refine cal_of D sc__law_text (fun vs H Q E h => ?_) (fun f cdv A outer s H vs Q E hr h => ?_)
  · obtain ⟨_, rfl, _⟩ := h
    rfl
  refine ⟨_, (pss_cons (ps_set (i := 1) sc__law_text.nd rfl (.inr rfl) pe_str)
    (pss_one (ps_ret (pe_join pe_str (pe_lc (own := [("k", 2)]) (g := gName 2) (tt := tYes) rfl sc__law_text.nd (pi_range1 rfl z_range (pa_cons (C8.pe_c c__law_digit hr (by decide) (by rfl) (pa_cons (pv 0) (pa_cons pe_int pa_nil))) pa_nil)) (blkOk_by (N := n__law_text) (sc := C8.fnScope s__law_text) (by decide +kernel)) (fun _ _ _ _ _ => pg_name (i := 2) sc__law_text.nd rfl (Or.inl rfl)) (fun _ _ _ _ _ => pts_nil) (fun _ _ _ _ _ => (pe_ix ix_str (pv 1) (C8.pe_c c__law_digit hr (by decide) (by rfl) (pa_cons (pv 0) (pa_cons pe_int pa_nil))) (fun _ _ => rfl)))))))), ?_⟩
  obtain ⟨p, rfl, d, q⟩ := h
  refine q_asg (v := .str (SX.S fewS)) (ev_is ev_c (by rw [fewS_S])) fun H1 e1 => ?_
  refine s1_ret (P := txtP fewS 4) (e1_join (by decide) (e1_lc (m := 4) (ez_mono (ez_digit (ev_var rfl) ev_c (by decide) (by decide)) fun i hi => by omega) (by decide) (fun _ => rfl) fun i => e1_sign rfl (by rw [fewS_len]; rfl) (by decide) (by decide) (ev_var rfl) ev_c)) (d.ex e1) fun v H2 hv e2 d2 => ?_
  obtain ⟨l, rfl, hl, hc⟩ := hv
  exact q _ H2 ⟨l, rfl, hl, fun c h => fewS_in c (hc c h)⟩ (wx_trans (wx_of e1) e2) d2
section
variable {σ : L2.St} {H : Hp} {ta : TE} {E : XK} {p : Addr}
theorem e1_text (ha : Ev ta σ (wo p H) (.ref p)) : EvD1 (tCall (sp__law_text K) [] E (tCons ta tNil)) σ p H (txtP signsL 4) := fun H1 e d Q q =>
  ha H1 e _ fun H2 e2 => ⟨p, rfl, d.ex e2, fun v H3 hv e3 d3 => q v H3 hv (wx_trans (wx_of e2) e3) d3⟩
theorem e1_value (ha : Ev ta σ (wo p H) (.ref p)) : EvD1 (tCall (sp__law_value K) [] E (tCons ta tNil)) σ p H DV := fun H1 e d Q q =>
  ha H1 e _ fun H2 e2 => ⟨p, rfl, d.ex e2, fun v H3 hv e3 d3 => q v H3 hv (wx_trans (wx_of e2) e3) d3⟩
end
theorem ok__law_value (D : Dn K mg "_law_value" s__law_value ["state"]) (c__law_digit : C8.Cal P w K mg base 1 "_law_digit" (sp__law_digit K) []) (c__law_text : C8.Cal P w K mg base 2 "_law_text" (sp__law_text K) []) :
    C8.Cal P w K mg base 3 "_law_value" (sp__law_value K) [] := by
  refine cal_of D sc__law_value (fun vs H Q E h => ?_) (fun f cdv A outer s H vs Q E hr h => ?_)
  · obtain ⟨_, rfl, _⟩ := h
    rfl
  refine ⟨_, (pss_cons (ps_set (i := 1) sc__law_value.nd rfl (.inl rfl) (C8.pe_c c__law_digit hr (by decide) (by rfl) (pa_cons (pv 0) (pa_cons pe_int pa_nil))))
    (pss_cons (ps_if (pt_cmpR op_lt (pv 1) pe_int (nomark _))
      (pss_one (ps_ret pe_non))
      pss_nil)
    (pss_cons (ps_if (pt_cmpR op_eq (pv 1) pe_int (nomark _))
      (pss_one (ps_ret (pe_cmpR op_eq (C8.pe_c c__law_digit hr (by decide) (by rfl) (pa_cons (pv 0) (pa_cons pe_int pa_nil))) pe_int (nomark _))))
      pss_nil)
    (pss_cons (ps_if (pt_cmpR op_lt (pv 1) pe_int (nomark _))
      (pss_one (ps_ret (pe_op op_sub (C8.pe_c c__law_digit hr (by decide) (by rfl) (pa_cons (pv 0) (pa_cons pe_int pa_nil))) pe_int)))
      pss_nil)
    (pss_cons (ps_if (pt_cmpR op_eq (pv 1) pe_int (nomark _))
      (pss_one (ps_ret (pe_op op_mul (pe_op op_sub (pe_op op_mul (C8.pe_c c__law_digit hr (by decide) (by rfl) (pa_cons (pv 0) (pa_cons pe_int pa_nil))) pe_int) pe_int) (pe_op op_sub pe_int (C8.pe_c c__law_digit hr (by decide) (by rfl) (pa_cons (pv 0) (pa_cons pe_int pa_nil)))))))
      pss_nil)
    (pss_one (ps_ret (C8.pe_c c__law_text hr (by decide) (by rfl) (pa_cons (pv 0) pa_nil))))))))), ?_⟩
  obtain ⟨p, rfl, d, q⟩ := h
  refine qz_asg (ez_digit (ev_var rfl) ev_c (by decide) (by decide)) d fun kd H1 hk e1 d1 => ?_
  have w2 : ∀ {H2 : Hp}, Ex H1 H2 → Ex (wo p H) H2 := fun e => wx_trans e1 (wx_of e)
  refine q_when (b := decide (kd < 2)) (by walk_at "et") (fun _ H2 e2 => s_ret ev_c fun H3 e3 => q _ H3 .non (w2 (e2.trans e3)) (d1.ex (e2.trans e3))) fun _ H2 e2 => ?_
  have dg : ∀ {m : Int} {σ : L2.St} {H0 : Hp}, σ[0]? = some (some (V.ref p)) → 0 < m → m < 2 ^ 400 → EvD1 (tCall (sp__law_digit K) [] C8.E0 (tCons (tVar 0) (tCons (tC (.int m)) tNil))) σ p H0 (ZP fun d => 0 ≤ d ∧ d < m) := fun h0 a b => ez_digit (ev_var h0) ev_c a b
  have cc : ∀ {c : Int} {σ : L2.St} {H0 : Hp}, EvD1 (tC (.int c)) σ p H0 (ZP fun d => d = c) := e1_int ev_c rfl
  refine q_when (b := decide (V.int kd = V.int 2)) (by walk_at "et") (fun _ H3 e3 => ?_) fun _ H3 e3 => ?_
  · refine s1_ret (P := fun v => ∃ b, v = .bl b) (ez_eq (dg rfl (by decide) (by decide)) cc) (d1.ex (e2.trans e3)) fun v H4 hv e4 d4 => ?_
    obtain ⟨b, rfl⟩ := hv
    exact q _ H4 (.bl b) (wx_trans (w2 (e2.trans e3)) e4) d4
  have x3 := e2.trans e3
  refine q_when (b := decide (kd < 5)) (by walk_at "et") (fun _ H4 e4 => ?_) fun _ H4 e4 => ?_
  · refine s1_ret (P := ZP fun i => -3 ≤ i ∧ i < 4) (ez_op0 (dg rfl (by decide) (by decide)) cc fun i j hi hj => ⟨by omega, by omega⟩) (d1.ex (x3.trans e4)) fun v H5 hv e5 d5 => ?_
    obtain ⟨i, rfl, hi⟩ := hv
    exact q _ H5 (.int i (by omega)) (wx_trans (w2 (x3.trans e4)) e5) d5
  refine q_when (b := decide (V.int kd = V.int 5)) (by walk_at "et") (fun _ H5 e5 => ?_) fun _ H5 e5 => ?_
  · refine s1_ret (P := ZP fun i => -1000000000000000 ≤ i ∧ i ≤ 1000000000000000) ?_ (d1.ex ((x3.trans e4).trans e5)) fun v H6 hv e6 d6 => ?_
    · refine ez_op (PI := fun i => i = -1 ∨ i = 1) (RI := fun j => 0 ≤ j ∧ j ≤ 1000000000000000) (ez_op0 (PI := fun i => i = 0 ∨ i = 2) (ez_op (dg rfl (by decide) (by decide)) cc fun i j hi hj => ⟨.inl ⟨by omega, by omega⟩, by subst hj; omega⟩) cc fun i j hi hj => by omega) (ez_op0 cc (dg rfl (by decide) (by decide)) fun i j hi hj => ⟨by omega, by omega⟩) fun i j hi hj => ⟨.inl ⟨by omega, by omega⟩, ?_⟩
      rcases hi with h | h <;> subst h <;> omega
    · obtain ⟨i, rfl, hi⟩ := hv
      exact q _ H6 (.int i hi) (wx_trans (w2 ((x3.trans e4).trans e5)) e6) d6
  · refine s1_ret (e1_text (ev_var rfl)) (d1.ex ((x3.trans e4).trans e5)) fun v H6 hv e6 d6 => ?_
    obtain ⟨l, rfl, hl, hc⟩ := hv
    exact q _ H6 (.str l hl hc) (wx_trans (w2 ((x3.trans e4).trans e5)) e6) d6
end

/-! ### ranks -/
def kr : V → Int
  | .non => 0
  | .bl _ => 1
  | .int _ => 2
  | _ => 3
def payV : V → V
  | .non => .int 0
  | .bl b => .int (if b then 1 else 0)
  | x => x
def rkL (x : V) : List V := [.int (kr x), payV x]
def payD : V → PyData
  | .non => .int 0
  | .bl b => .int (if b then 1 else 0)
  | .int i => .int i
  | .str s => .str s
  | _ => .none
def rkDs (x : V) : List PyData := [.int (kr x), payD x]
def rkD (x : V) : PyData := .tuple (rkDs x)
/-- plain, and its signs are signs -/
inductive Ok : V → Prop where
  | non : Ok .non
  | bl (b : Bool) : Ok (.bl b)
  | int (i : Int) : Ok (.int i)
  | str (s : Str) (h : PyData.strOk s = true) : Ok (.str s)
theorem Ok.pl {x : V} (h : Ok x) : Pl x := by cases h <;> constructor
theorem strOk_S {l : List Nat} (h : ∀ c ∈ l, 32 ≤ c ∧ c ≤ 126) : PyData.strOk (SX.S l) = true := by
  unfold PyData.strOk
  rw [Array.all_eq_true']
  intro c hc
  have := h c (by simpa using hc)
  exact decide_eq_true (by omega)
theorem dp_pay {K : PySem.W.Frag} {H : Hp} {x : V} (h : Ok x) : Dp K H (payV x) (payD x) := by
  cases h with
  | non => exact .int 0
  | bl b => exact .int _
  | int i => exact .int i
  | str s _ => exact .str s
theorem dp_rks {K : PySem.W.Frag} {H : Hp} {x : V} (h : Ok x) : DpAll K H (rkL x) (rkDs x) := .cons (.int _) (.cons (dp_pay h) .nil)
theorem dp_rk {K : PySem.W.Frag} {H : Hp} {x : V} {p : Addr} (h : Ok x) (hp : H p = some (.tup (rkL x))) : Dp K H (.ref p) (rkD x) := .tup (st_of hp) (dp_rks h)
theorem lay_rk {x : V} (h : Ok x) : (rkD x).canLay0 = true := by
  cases h with
  | non => rfl
  | bl b => rfl
  | int i => rfl
  | str s hs =>
    show (true && (PyData.strOk s && true)) = true
    rw [hs]
    rfl
theorem dep_rk {x : V} (h : Ok x) : (rkD x).depth = 1 := by cases h <;> rfl
theorem shaped_rk {x : V} (h : Ok x) : SeqAt.shaped (rkD x) = true := by
  unfold SeqAt.shaped
  rw [lay_rk h, dep_rk h]
  rfl
theorem noL_rk {x : V} (h : Ok x) : noL (rkD x) = true := by cases h <;> rfl
theorem ord_rk {x y : V} (hx : Ok x) (hy : Ok y) : ordD (rkD x) (rkD y) = true := by
  have step : ∀ (a b : Int) (p q : PyData), (a = b → ordD p q = true) → ordD (.tuple [.int a, p]) (.tuple [.int b, q]) = true := by
    intro a b p q h
    rw [ordD, ordDs]
    split
    · rename_i e
      rw [ordDs]
      split
      · rfl
      · exact h (beq_iff_eq.mp (show (a == b) = true from e))
    · rfl
  refine step _ _ _ _ fun e => ?_
  cases hx <;> cases hy <;> first | rfl | (simp [kr] at e)
theorem lays_rk : ∀ {xs : List V}, (∀ x ∈ xs, Ok x) → PyData.canLayAll0 (xs.map rkD) = true
  | [], _ => rfl
  | x :: xs, h => by
    show ((rkD x).canLay0 && PyData.canLayAll0 (xs.map rkD)) = true
    rw [lay_rk (h x (List.mem_cons_self ..)), lays_rk fun y hy => h y (List.mem_cons_of_mem _ hy)]
    rfl
theorem deps_rk : ∀ {xs : List V}, (∀ x ∈ xs, Ok x) → PyData.depthAll (xs.map rkD) ≤ 1
  | [], _ => by show 0 ≤ 1; decide
  | x :: xs, h => by
    show max (rkD x).depth (PyData.depthAll (xs.map rkD)) ≤ 1
    rw [dep_rk (h x (List.mem_cons_self ..))]
    have := deps_rk fun y hy => h y (List.mem_cons_of_mem _ hy)
    omega
theorem shaped_row {xs : List V} (h : ∀ x ∈ xs, Ok x) : SeqAt.shaped (.tuple (xs.map rkD)) = true := by
  have hd := deps_rk h
  show (PyData.canLayAll0 (xs.map rkD) && decide (PyData.depthAll (xs.map rkD) + 1 ≤ 64)) = true
  rw [lays_rk h, decide_eq_true (by omega)]
  rfl
theorem ords_rk : ∀ {xs ys : List V}, (∀ x ∈ xs, Ok x) → (∀ y ∈ ys, Ok y) → ordDs (xs.map rkD) (ys.map rkD) = true
  | [], _, _, _ => by rw [List.map_nil, ordDs]
  | _ :: _, [], _, _ => rfl
  | x :: xs, y :: ys, h1, h2 => by
    rw [List.map_cons, List.map_cons, ordDs]
    split
    · exact ords_rk (fun z hz => h1 z (List.mem_cons_of_mem _ hz)) (fun z hz => h2 z (List.mem_cons_of_mem _ hz))
    · exact ord_rk (h1 x (List.mem_cons_self ..)) (h2 y (List.mem_cons_self ..))
def sp_kind_rank (K : PySem.W.Frag) : Sp := fun vs H Q _ => ∃ x : V, vs = [x] ∧ Ok x ∧ ∀ H', Ex H H' → Q (.int (kr x)) H'
def sp_is_integer (K : PySem.W.Frag) : Sp := fun vs H Q _ => ∃ x : V, vs = [x] ∧ Pl x ∧ ∀ H', Ex H H' → Q (.bl (isInt x)) H'
def sp__law_is_integer (K : PySem.W.Frag) : Sp := fun vs H Q _ => ∃ x : V, vs = [x] ∧ Pl x ∧ ∀ H', Ex H H' → Q (.bl (isInt x)) H'
def sp_rank (K : PySem.W.Frag) : Sp := fun vs H Q _ => ∃ x : V, vs = [x] ∧ Ok x ∧ ∀ p H', H p = none → Ex H H' → H' p = some (.tup (rkL x)) → Q (.ref p) H'
def sp__law_rank (K : PySem.W.Frag) : Sp := fun vs H Q _ => ∃ x : V, vs = [x] ∧ Ok x ∧ ∀ p H', H p = none → Ex H H' → H' p = some (.tup (rkL x)) → Q (.ref p) H'
def sp_same (K : PySem.W.Frag) : Sp := fun vs H Q _ => ∃ x y : V, vs = [x, y] ∧ Ok x ∧ Ok y ∧ ∀ H', Ex H H' → Q (.bl (PyData.eqv (rkD x) (rkD y))) H'
def sp_before (K : PySem.W.Frag) : Sp := fun vs H Q _ => ∃ x y : V, vs = [x, y] ∧ Ok x ∧ Ok y ∧ ∀ H', Ex H H' → Q (.bl (ltD (rkD x) (rkD y))) H'
section
variable {P : Program} {w : World} {K : PySem.W.Frag} {mg : Str → Option Value} {base : Heap}
section
variable {σ : L2.St} {H : Hp} {ta tb tc : TE} {E : XK} {x y : V}
theorem ec_isint0 (ha : Ev ta σ H x) (h : Pl x) : Ev (tCall (sp_is_integer K) [] E (tCons ta tNil)) σ H (.bl (isInt x)) := ev_call (ea_cons ha ea_nil) fun H1 e Q q E => ⟨x, rfl, h, q⟩
theorem ec_isint (ha : Ev ta σ H x) (h : Pl x) : Ev (tCall (sp__law_is_integer K) [] E (tCons ta tNil)) σ H (.bl (isInt x)) := ev_call (ea_cons ha ea_nil) fun H1 e Q q E => ⟨x, rfl, h, q⟩
theorem ec_kr (ha : Ev ta σ H x) (h : Ok x) : Ev (tCall (sp_kind_rank K) [] E (tCons ta tNil)) σ H (.int (kr x)) := ev_call (ea_cons ha ea_nil) fun H1 e Q q E => ⟨x, rfl, h, q⟩
theorem ec_rank (ha : Ev ta σ H x) (h : Ok x) : EvU (tCall (sp_rank K) [] E (tCons ta tNil)) σ H (rkL x) := eu_call (ea_cons ha ea_nil) fun H1 e Q q E => ⟨x, rfl, h, q⟩
theorem ec_lrank (ha : Ev ta σ H x) (h : Ok x) : EvU (tCall (sp__law_rank K) [] E (tCons ta tNil)) σ H (rkL x) := eu_call (ea_cons ha ea_nil) fun H1 e Q q E => ⟨x, rfl, h, q⟩
theorem ud_rk (h : EvU ta σ H (rkL x)) (hx : Ok x) : EvUD K ta σ H (rkDs x) := fun H1 e Q q => h H1 e _ fun p H2 hp e2 h2 => q p H2 _ hp e2 h2 (dp_rks hx)
theorem ed_rk (h : EvU ta σ H (rkL x)) (hx : Ok x) : EvD K ta σ H (rkD x) := ed_tupU (ud_rk h hx)
theorem ec_same (ha : Ev ta σ H x) (hb : Ev tb σ H y) (h1 : Ok x) (h2 : Ok y) : Ev (tCall (sp_same K) [] E (tCons ta (tCons tb tNil))) σ H (.bl (PyData.eqv (rkD x) (rkD y))) := ev_call (ea_cons ha (ea_cons hb ea_nil)) fun H1 e Q q E => ⟨x, y, rfl, h1, h2, q⟩
theorem ec_before (ha : Ev ta σ H x) (hb : Ev tb σ H y) (h1 : Ok x) (h2 : Ok y) : Ev (tCall (sp_before K) [] E (tCons ta (tCons tb tNil))) σ H (.bl (ltD (rkD x) (rkD y))) := ev_call (ea_cons ha (ea_cons hb ea_nil)) fun H1 e Q q E => ⟨x, y, rfl, h1, h2, q⟩
end
theorem ok_kind_rank (D : Dn K mg "kind_rank" s_kind_rank ["value"]) (z_bool : mg "bool" = none) (z_int : mg "int" = none) (z_isinstance : mg "isinstance" = none) :
    C8.Cal P w K mg base 1 "kind_rank" (sp_kind_rank K) [] := by
  refine cal_of D sc_kind_rank (fun vs H Q E h => ?_) (fun f cdv A outer s H vs Q E hr h => ?_)
  · obtain ⟨_, rfl, _⟩ := h
    rfl
  refine ⟨_, (pss_cons (ps_if (pt_cmpR op_isN (pv 0) pe_non (nomark _))
      (pss_one (ps_ret pe_int))
      pss_nil)
    (pss_cons (ps_if (pt_val (pe_callB call_isi (by rfl) z_isinstance (by decide +kernel) (pa_cons (pv 0) (pa_cons (pe_bltn (v := .ty "bool") (u := .type "bool") rfl z_bool (by decide +kernel) rfl) pa_nil))))
      (pss_one (ps_ret pe_int))
      pss_nil)
    (pss_cons (ps_if (pt_val (pe_callB call_isi (by rfl) z_isinstance (by decide +kernel) (pa_cons (pv 0) (pa_cons (pe_bltn (v := .ty "int") (u := .type "int") rfl z_int (by decide +kernel) rfl) pa_nil))))
      (pss_one (ps_ret pe_int))
      pss_nil)
    (pss_one (ps_ret pe_int))))), ?_⟩
  obtain ⟨x, rfl, hx, q⟩ := h
  refine q_when (b := decide (x = .non)) (by walk_at "et") (fun hb H1 e1 => s_ret (v := .int (kr x)) ?_ fun H2 e2 => q _ (e1.trans e2)) fun hb H1 e1 => ?_
  · rw [of_decide_eq_true hb]
    exact ev_c
  cases hx with
  | non => exact absurd hb (by decide)
  | bl b => exact q_when (b := true) (et_B (ev_isiP (ev_var rfl) (.bl b) (by show kitB "bool" "bool" = some true; decide +kernel))) (fun _ H2 e2 => s_ret ev_c fun H3 e3 => q _ ((e1.trans e2).trans e3)) fun hb => nomatch hb
  | int i => exact q_when (b := false) (et_B (ev_isiP (ev_var rfl) (.int i) (by show kitB "int" "bool" = some false; decide +kernel))) (fun hb => nomatch hb) fun _ H2 e2 => q_when (b := true) (et_B (ev_isiP (ev_var rfl) (.int i) (by show kitB "int" "int" = some true; decide +kernel))) (fun _ H3 e3 => s_ret ev_c fun H4 e4 => q _ (((e1.trans e2).trans e3).trans e4)) fun hb => nomatch hb
  | str s hs => exact q_when (b := false) (et_B (ev_isiP (ev_var rfl) (.str s) (by show kitB "str" "bool" = some false; decide +kernel))) (fun hb => nomatch hb) fun _ H2 e2 => q_when (b := false) (et_B (ev_isiP (ev_var rfl) (.str s) (by show kitB "str" "int" = some false; decide +kernel))) (fun hb => nomatch hb) fun _ H3 e3 => s_ret ev_c fun H4 e4 => q _ (((e1.trans e2).trans e3).trans e4)
theorem ok_is_integer (D : Dn K mg "is_integer" s_is_integer ["value"]) (z_bool : mg "bool" = none) (z_int : mg "int" = none) (z_isinstance : mg "isinstance" = none) :
    C8.Cal P w K mg base 1 "is_integer" (sp_is_integer K) [] := by
  refine cal_of D sc_is_integer (fun vs H Q E h => ?_) (fun f cdv A outer s H vs Q E hr h => ?_)
  · obtain ⟨_, rfl, _⟩ := h
    rfl
  refine ⟨_, (pss_one (ps_ret (pe_and (pe_callB call_isi (by rfl) z_isinstance (by decide +kernel) (pa_cons (pv 0) (pa_cons (pe_bltn (v := .ty "int") (u := .type "int") rfl z_int (by decide +kernel) rfl) pa_nil))) (pe_one (pe_not (pe_callB call_isi (by rfl) z_isinstance (by decide +kernel) (pa_cons (pv 0) (pa_cons (pe_bltn (v := .ty "bool") (u := .type "bool") rfl z_bool (by decide +kernel) rfl) pa_nil)))))))), ?_⟩
  obtain ⟨x, rfl, hx, q⟩ := h
  exact s_ret (ev_isInt (ev_var rfl) (ev_var rfl) hx) fun H2 e2 => q _ e2
theorem ok__law_is_integer (D : Dn K mg "_law_is_integer" s__law_is_integer ["told"]) (z_bool : mg "bool" = none) (z_int : mg "int" = none) (z_isinstance : mg "isinstance" = none) :
    C8.Cal P w K mg base 1 "_law_is_integer" (sp__law_is_integer K) [] := by
  refine cal_of D sc__law_is_integer (fun vs H Q E h => ?_) (fun f cdv A outer s H vs Q E hr h => ?_)
  · obtain ⟨_, rfl, _⟩ := h
    rfl
  refine ⟨_, (pss_one (ps_ret (pe_and (pe_callB call_isi (by rfl) z_isinstance (by decide +kernel) (pa_cons (pv 0) (pa_cons (pe_bltn (v := .ty "int") (u := .type "int") rfl z_int (by decide +kernel) rfl) pa_nil))) (pe_one (pe_not (pe_callB call_isi (by rfl) z_isinstance (by decide +kernel) (pa_cons (pv 0) (pa_cons (pe_bltn (v := .ty "bool") (u := .type "bool") rfl z_bool (by decide +kernel) rfl) pa_nil)))))))), ?_⟩
  obtain ⟨x, rfl, hx, q⟩ := h
  exact s_ret (ev_isInt (ev_var rfl) (ev_var rfl) hx) fun H2 e2 => q _ e2
theorem ok_rank (D : Dn K mg "rank" s_rank ["value"]) (c_kind_rank : C8.Cal P w K mg base 1 "kind_rank" (sp_kind_rank K) []) (z_int : mg "int" = none) :
    C8.Cal P w K mg base 2 "rank" (sp_rank K) [] := by
  refine cal_of D sc_rank (fun vs H Q E h => ?_) (fun f cdv A outer s H vs Q E hr h => ?_)
  · obtain ⟨_, rfl, _⟩ := h
    rfl
  refine ⟨_, (pss_cons (ps_set (i := 1) sc_rank.nd rfl (.inl rfl) (C8.pe_c c_kind_rank hr (by decide) (by rfl) (pa_cons (pv 0) pa_nil)))
    (pss_cons (ps_if (pt_cmpR op_eq (pv 1) pe_int (nomark _))
      (pss_one (ps_ret (pe_tup (pa_cons pe_int (pa_cons pe_int pa_nil)))))
      pss_nil)
    (pss_cons (ps_if (pt_cmpR op_eq (pv 1) pe_int (nomark _))
      (pss_one (ps_ret (pe_tup (pa_cons pe_int (pa_cons (pe_callTy call_int1 (by rfl) z_int (by decide +kernel) (pa_cons (pv 0) pa_nil)) pa_nil)))))
      pss_nil)
    (pss_one (ps_ret (pe_tup (pa_cons (pv 1) (pa_cons (pv 0) pa_nil)))))))), ?_⟩
  obtain ⟨x, rfl, hx, q⟩ := h
  refine q_asg (ec_kr (ev_var rfl) hx) fun H1 e1 => ?_
  refine q_when (b := decide (V.int (kr x) = V.int 0)) (by walk_at "et") (fun hb H2 e2 => s_retU (xs := rkL x) ?_ fun p H3 hp e3 h3 => q p H3 (fresh_back (e1.trans e2) hp) ((e1.trans e2).trans e3) h3) fun hb H2 e2 => ?_
  · cases hx with
    | non => exact eu_tup (ea_cons ev_c (ea_cons ev_c ea_nil)) (by show 2 ≤ 100000; decide)
    | _ => simp [kr] at hb
  refine q_when (b := decide (V.int (kr x) = V.int 1)) (by walk_at "et") (fun hb H3 e3 => s_retU (xs := rkL x) ?_ fun p H4 hp e4 h4 => q p H4 (fresh_back ((e1.trans e2).trans e3) hp) (((e1.trans e2).trans e3).trans e4) h4) fun hb H3 e3 => s_retU (xs := rkL x) ?_ fun p H4 hp e4 h4 => q p H4 (fresh_back ((e1.trans e2).trans e3) hp) (((e1.trans e2).trans e3).trans e4) h4
  · cases hx with
    | bl b => exact eu_tup (ea_cons ev_c (ea_cons (ev_intB (ev_var rfl)) ea_nil)) (by show 2 ≤ 100000; decide)
    | _ => simp [kr] at hb
  · cases hx with
    | non => exact absurd ‹decide (V.int (kr .non) = V.int 0) = false› (by decide)
    | bl b => exact absurd ‹decide (V.int (kr (.bl b)) = V.int 1) = false› (by show ¬ decide (V.int 1 = V.int 1) = false; decide)
    | int i => exact eu_tup (ea_cons (ev_var rfl) (ea_cons (ev_var rfl) ea_nil)) (by show 2 ≤ 100000; decide)
    | str s hs => exact eu_tup (ea_cons (ev_var rfl) (ea_cons (ev_var rfl) ea_nil)) (by show 2 ≤ 100000; decide)
theorem ok_same (D : Dn K mg "same" s_same ["first", "second"]) (c_rank : C8.Cal P w K mg base 2 "rank" (sp_rank K) []) :
    C8.Cal P w K mg base 3 "same" (sp_same K) [] := by
  refine cal_of D sc_same (fun vs H Q E h => ?_) (fun f cdv A outer s H vs Q E hr h => ?_)
  · obtain ⟨_, _, rfl, _⟩ := h
    rfl
  refine ⟨_, (pss_one (ps_ret (pe_cmpR (op_eqD (hu64 hr)) (C8.pe_c c_rank hr (by decide) (by rfl) (pa_cons (pv 0) pa_nil)) (C8.pe_c c_rank hr (by decide) (by rfl) (pa_cons (pv 1) pa_nil)) (nomark _)))), ?_⟩
  obtain ⟨x, y, rfl, hx, hy, q⟩ := h
  exact s_ret (ev_eqD (ed_rk (ec_rank (ev_var rfl) hx) hx) (ed_rk (ec_rank (ev_var rfl) hy) hy) (shaped_rk hx) (shaped_rk hy)) fun H2 e2 => q _ e2
end

/-! ### packed numbers -/
def packN (w : Nat) (xs : List Int) : Int := xs.foldr (fun x b => b * 2 ^ w + x) 0
theorem packN_cons (w : Nat) (x : Int) (r : List Int) : packN w (x :: r) = packN w r * 2 ^ w + x := rfl
theorem p2pos (n : Nat) : (0 : Int) < 2 ^ n := PySem.W.kbt_pos n
def InW (w : Nat) (xs : List Int) : Prop := ∀ x ∈ xs, 0 ≤ x ∧ x < 2 ^ w
theorem packN_nn {w : Nat} : ∀ {xs : List Int}, InW w xs → 0 ≤ packN w xs
  | [], _ => Int.le_refl 0
  | x :: r, h => by
    rw [packN_cons]
    have := packN_nn (w := w) (xs := r) fun y hy => h y (List.mem_cons_of_mem _ hy)
    have hx := (h x List.mem_cons_self).1
    have := Int.mul_nonneg this (Int.le_of_lt (p2pos w))
    omega
theorem packN_lt {w : Nat} : ∀ {xs : List Int}, InW w xs → packN w xs < 2 ^ (w * xs.length)
  | [], _ => by show (0 : Int) < _; exact p2pos _
  | x :: r, h => by
    rw [packN_cons]
    have ih := packN_lt (w := w) (xs := r) fun y hy => h y (List.mem_cons_of_mem _ hy)
    have hx := (h x List.mem_cons_self).2
    have e : (2 : Int) ^ (w * (x :: r).length) = 2 ^ (w * r.length) * 2 ^ w := by rw [List.length_cons, Nat.mul_succ, Int.pow_add]
    rw [e]
    have h2 : packN w r + 1 ≤ 2 ^ (w * r.length) := ih
    have h3 := Int.mul_le_mul_of_nonneg_right h2 (Int.le_of_lt (p2pos w))
    rw [Int.add_mul, Int.one_mul] at h3
    omega
theorem packN_at {w : Nat} : ∀ {xs : List Int} {i : Nat} {x : Int}, InW w xs → xs[i]? = some x → packN w xs / 2 ^ (w * i) % 2 ^ w = x
  | [], i, x, _, h => by simp at h
  | y :: r, 0, x, hw, h => by
    have e : y = x := by simpa using h
    subst e
    have hy := hw y List.mem_cons_self
    rw [packN_cons, Nat.mul_zero, Int.pow_zero, Int.ediv_one, Int.add_comm, Int.add_mul_emod_self_right]
    exact Int.emod_eq_of_lt hy.1 hy.2
  | y :: r, i + 1, x, hw, h => by
    have hy := hw y List.mem_cons_self
    have h' : r[i]? = some x := by simpa using h
    have ih := packN_at (w := w) (xs := r) (i := i) (fun z hz => hw z (List.mem_cons_of_mem _ hz)) h'
    have e : (2 : Int) ^ (w * (i + 1)) = 2 ^ w * 2 ^ (w * i) := by rw [Nat.mul_succ, Nat.add_comm, Int.pow_add]
    have e2 : packN w (y :: r) / 2 ^ w = packN w r := by
      rw [packN_cons, Int.add_comm, Int.add_mul_ediv_right _ _ (Int.ne_of_gt (p2pos w)), Int.ediv_eq_zero_of_lt hy.1 hy.2, Int.zero_add]
    rw [e, ← Int.ediv_ediv_of_nonneg (Int.le_of_lt (p2pos w)), e2]
    exact ih
theorem bits_eq {N i : Nat} (h : N / 2 ^ i = 0) (hi : i ≤ Builtin.Int.intBits (N : Int)) : Builtin.Int.intBits (N : Int) = i := by
  have h1 : N < 2 ^ i := by
    rcases Nat.lt_or_ge N (2 ^ i) with h2 | h2
    · exact h2
    · exact absurd h (Nat.ne_of_gt (Nat.div_pos h2 (Nat.two_pow_pos i)))
  have : Builtin.Int.intBits (N : Int) ≤ i := intBits_le_iff.mpr (by rw [Int.natAbs_natCast]; exact h1)
  omega
theorem bits_go {N i : Nat} (h : ¬ N / 2 ^ i = 0) : i + 1 ≤ Builtin.Int.intBits (N : Int) := by
  rcases Nat.lt_or_ge i (Builtin.Int.intBits (N : Int)) with h2 | h2
  · exact h2
  · have := intBits_le_iff.mp h2
    rw [Int.natAbs_natCast] at this
    exact absurd (Nat.div_eq_of_lt this) h
def unp (w : Nat) (bits : Int) (i : Nat) : V := .int (bits / 2 ^ (w * i) % 2 ^ w)
def sp_width_for (K : PySem.W.Frag) : Sp := fun vs H Q _ => ∃ n : Int, vs = [.int n] ∧ ∀ H', Ex H H' → Q (.int (Builtin.Int.intBits n : Nat)) H'
def sp_pack (K : PySem.W.Frag) : Sp := fun vs H Q _ => ∃ (a : Addr) (w : Nat) (xs : List Int), vs = [.ref a, .int (w : Int)] ∧ SqL K H a (xs.map V.int) ∧ InW w xs ∧ w ≤ 100 ∧ xs.length ≤ 100 ∧ ∀ H', Ex H H' → Q (.int (packN w xs)) H'
def sp_unpack (K : PySem.W.Frag) : Sp := fun vs H Q _ => ∃ (bits : Int) (w n : Nat), vs = [.int bits, .int (w : Int), .int (n : Int)] ∧ w ≤ 100 ∧ n ≤ 100 ∧ ∀ p H', H p = none → Ex H H' → H' p = some (.lst ((List.range n).map (unp w bits))) → Q (.ref p) H'
section
variable {P : Program} {w : World} {K : PySem.W.Frag} {mg : Str → Option Value} {base : Heap}
theorem ok_width_for (D : Dn K mg "width_for" s_width_for ["number"]) :
    C8.Cal P w K mg base 1 "width_for" (sp_width_for K) [] := by
  refine cal_of D sc_width_for (fun vs H Q E h => ?_) (fun f cdv A outer s H vs Q E hr h => ?_)
  · obtain ⟨_, rfl, _⟩ := h
    rfl
  refine ⟨_, (pss_one (ps_ret (pe_bits (pv 0) ))), ?_⟩
  obtain ⟨n, rfl, q⟩ := h
  refine s_ret (v := .int (Builtin.Int.intBits n : Nat)) (fun H1 e Q k => ?_) fun H2 e2 => q _ e2
  exact ⟨_, rfl, n, rfl, k H1 (Ex.refl H1)⟩
theorem ok_pack (D : Dn K mg "pack" s_pack ["numbers", "width"]) (z_reversed : mg "reversed" = none) :
    C8.Cal P w K mg base 1 "pack" (sp_pack K) [] := by
  refine cal_of D sc_pack (fun vs H Q E h => ?_) (fun f cdv A outer s H vs Q E hr h => ?_)
  · obtain ⟨_, _, _, rfl, _⟩ := h
    rfl
  refine ⟨_, (pss_cons (ps_set (i := 2) sc_pack.nd rfl (.inl rfl) pe_int)
    (pss_cons (ps_for PassesOwn.never rfl (pi_reversed (by rfl) z_reversed (pa_cons (pv 0) pa_nil)) (pg_name (i := 3) sc_pack.nd rfl (.inl rfl))
      (pss_one (ps_set (i := 2) sc_pack.nd rfl (.inl rfl) (pe_op op_orL (pe_op op_shlN (pv 2) (pv 1)) (pv 3)))))
    (pss_one (ps_ret (pv 2))))), ?_⟩
  obtain ⟨a, w, xs, rfl, hS, hw, h1, h2, q⟩ := h
  refine q_asg (v := .int 0) ev_c fun H1 e1 => ?_
  refine q_forRev (ea_cons (ev_var rfl) ea_nil) (ex_l e1 hS) (fun i σ' H' => ∃ nv, σ' = [some (.ref a), some (.int (w : Int)), some (.int (packN w (xs.drop (xs.length - i)))), nv] ∧ Ex H1 H') (fun H2 e2 => ⟨none, ?_, e2⟩) (fun i σ' H' p => ?_) (fun i x σ' H' hi hx p => ?_) fun σ' H' p => ?_
  · rw [Nat.sub_zero, List.drop_length]
    rfl
  · obtain ⟨nv, es, e⟩ := p
    exact ex_l (e1.trans e) hS
  · obtain ⟨nv, es, e⟩ := p
    subst es
    rw [List.length_map] at hi hx
    have hj : xs.length - 1 - i < xs.length := by omega
    rw [List.getElem?_map, List.getElem?_eq_getElem hj] at hx
    have ex : x = .int xs[xs.length - 1 - i] := by simpa using hx.symm
    subst ex
    have hd : xs.drop (xs.length - (i + 1)) = xs[xs.length - 1 - i] :: xs.drop (xs.length - i) := by
      rw [show xs.length - (i + 1) = xs.length - 1 - i by omega, List.drop_eq_getElem_cons hj, show xs.length - 1 - i + 1 = xs.length - i by omega]
    have hm := hw _ (List.getElem_mem hj)
    have hI : InW w (xs.drop (xs.length - i)) := fun y hy => hw y (List.mem_of_mem_drop hy)
    have n0 := packN_nn hI
    have n1 := packN_lt hI
    have n2 : (packN w (xs.drop (xs.length - i))).natAbs < 2 ^ (w * (xs.drop (xs.length - i)).length) := by
      have e : ((packN w (xs.drop (xs.length - i))).natAbs : Int) < ((2 ^ (w * (xs.drop (xs.length - i)).length) : Nat) : Int) := by
        rw [PySem.W.kbt_cast]
        omega
      exact Int.ofNat_lt.mp e
    have n3 : w * (xs.drop (xs.length - i)).length ≤ 10000 := Nat.le_trans (Nat.mul_le_mul h1 (show (xs.drop (xs.length - i)).length ≤ 100 by rw [List.length_drop]; omega)) (by decide)
    refine s_asg (v := .int (packN w (xs.drop (xs.length - (i + 1))))) ?_ fun H2 e2 => ⟨_, rfl, e.trans e2⟩
    rw [hd, packN_cons]
    refine ev_op (ev_op (ev_var rfl) (ev_var rfl) (fun H3 e3 Q k => ⟨_, w, rfl, rfl, shl_ok n2 (by omega), k H3 (Ex.refl H3)⟩)) (ev_var rfl) (fun H3 e3 Q k => ⟨_, _, w, rfl, rfl, ⟨n0, hm.1, hm.2⟩, k H3 (Ex.refl H3)⟩)
  · obtain ⟨nv, es, e⟩ := p
    subst es
    rw [List.length_map, Nat.sub_self, List.drop_zero]
    exact s_ret (ev_var rfl) fun H3 e3 => q _ ((e1.trans e).trans e3)
theorem ok_unpack (D : Dn K mg "unpack" s_unpack ["bits", "width", "count"]) (z_range : mg "range" = none) :
    C8.Cal P w K mg base 1 "unpack" (sp_unpack K) [] := by
  refine cal_of D sc_unpack (fun vs H Q E h => ?_) (fun f cdv A outer s H vs Q E hr h => ?_)
  · obtain ⟨_, _, _, rfl, _⟩ := h
    rfl
  refine ⟨_, (pss_cons (ps_set (i := 3) sc_unpack.nd rfl (.inr rfl) (pe_op op_sub (pe_op op_oneShl pe_int (pv 1)) pe_int))
    (pss_one (ps_ret (pe_lc (own := [("at", 4)]) (g := gName 4) (tt := tYes) rfl sc_unpack.nd (pi_range1 rfl z_range (pa_cons (pv 2) pa_nil)) (blkOk_by (N := n_unpack) (sc := C8.fnScope s_unpack) (by decide +kernel)) (fun _ _ _ _ _ => pg_name (i := 4) sc_unpack.nd rfl (Or.inl rfl)) (fun _ _ _ _ _ => pts_nil) (fun _ _ _ _ _ => (pe_op op_andM (pe_op op_shrN (pv 0) (pe_op op_mul (pv 1) (pv 4))) (pv 3))))))), ?_⟩
  obtain ⟨bits, w, n, rfl, hw, hn, q⟩ := h
  refine q_asg (v := .int (2 ^ w - 1)) ?_ fun H1 e1 => ?_
  · exact ev_op (ev_op ev_c (ev_var rfl) (fun H3 e3 Q k => ⟨w, rfl, rfl, by omega, k H3 (Ex.refl H3)⟩)) ev_c rv_I0
  refine s_retL (xs := (List.range n).map (unp w bits)) ?_ fun p H2 hp e2 h2 => q p H2 (fresh_back e1 hp) (e1.trans e2) h2
  have hg : given ((n : Int)).toNat (fun _ => true) (unp w bits) = (List.range n).map (unp w bits) := by
    unfold given
    rw [Int.toNat_natCast, List.filter_eq_self.mpr (fun _ _ => rfl)]
  rw [← hg]
  refine el_lcR1 (fun _ => true) (unp w bits) (ea_cons (ev_var rfl) ea_nil) ⟨by omega, by omega⟩ (fun _ => rfl) (fun i H3 e3 hi H4 e4 Q k => k H4 (Ex.refl H4)) fun i H3 e3 hi _ => ?_
  refine ev_op (ev_op (ev_var rfl) (ev_op (ev_var rfl) (ev_var rfl) (rv_I (.inl ⟨by omega, by omega⟩))) (fun H5 e5 Q k => ⟨bits, w * i, rfl, by rw [Int.natCast_mul], k H5 (Ex.refl H5)⟩)) (ev_var rfl) (fun H5 e5 Q k => ⟨_, w, rfl, rfl, k H5 (Ex.refl H5)⟩)
end

/-! ### max(xs, default=d), min(xs, default=d): lists of ints -/
def foldD (f : Int → Int → Int) (d : Int) : List Int → Int
  | [] => d
  | n :: r => r.foldl f n
def rFoldD (f : Int → Int → Int) (K : PySem.W.Frag) : List V → List V → Hp → VK → Prop := fun vs zs H Q => ∃ (a : Addr) (ns : List Int) (d : Int), vs = [.ref a] ∧ zs = [.int d] ∧ SqL K H a (ns.map V.int) ∧ Q (.int (foldD f d ns)) H
theorem reads_ints {h : Heap} : ∀ {its : List Value} {ns : List Int}, IntsAre its ns → ∃ as, ReadsAll h its (ns.map PyData.int) as
  | _, _, .nil => ⟨_, .nil⟩
  | _, _, .cons _ _ r => by
    obtain ⟨as, h⟩ := reads_ints (h := h) r
    exact ⟨_, .cons (.int _ _) h⟩
theorem alike_ints (ns : List Int) : PySem.W.AlikeAll (ns.map PyData.int) := by
  refine ⟨fun x hx y hy => ?_, fun x hx => ?_⟩
  · obtain ⟨a, _, rfl⟩ := List.mem_map.mp hx
    obtain ⟨b, _, rfl⟩ := List.mem_map.mp hy
    rfl
  · obtain ⟨a, _, rfl⟩ := List.mem_map.mp hx
    exact fun z => nomatch z
theorem cr_maxDef {X : Cx} (hc : X.calm = true) (hu : X.A.units + 64 < cLine) : CallRK X (.builtin "max") [Str.ofString "default"] (rFoldD max X.K) := by
  intro pins s σ H vs zs us ws Q I r rz h
  obtain ⟨a, ns, d, rfl, rfl, hs, q⟩ := h
  obtain rfl := Vals.ref1 r
  obtain ⟨w1, rfl, e1⟩ := vals1 rz
  obtain ⟨t, rfl⟩ := e1
  obtain ⟨its, rv, hl, hz⟩ := I.list hs
  have hi := rv.ints
  obtain ⟨as, hr⟩ := reads_ints (h := s.heap) hi
  refine PySem.W.max_list_default (xs := ns.map PyData.int) (I.ok.hd hc) hl.isList hr (alike_ints ns) (by rw [PySem.W.ke_depthAll]; omega) (fun e h' tk hk => ?_) (fun y ys i v h' tk bs e hv hrd hk => ?_)
  · have e2 : ns = [] := List.map_eq_nil_iff.mp e
    subst e2
    exact ⟨.int d, H, I.kept hk, ⟨_, rfl⟩, q⟩
  · cases ns with
    | nil => cases e
    | cons n r =>
      have e2 := List.cons.inj e
      obtain ⟨e3, e4⟩ := e2
      subst e3 e4
      rw [PySem.W.maxD_ints] at hrd
      cases hrd
      exact ⟨.int _, H, I.kept hk, ⟨_, rfl⟩, q⟩
theorem cr_minDef {X : Cx} (hc : X.calm = true) (hu : X.A.units + 64 < cLine) : CallRK X (.builtin "min") [Str.ofString "default"] (rFoldD min X.K) := by
  intro pins s σ H vs zs us ws Q I r rz h
  obtain ⟨a, ns, d, rfl, rfl, hs, q⟩ := h
  obtain rfl := Vals.ref1 r
  obtain ⟨w1, rfl, e1⟩ := vals1 rz
  obtain ⟨t, rfl⟩ := e1
  obtain ⟨its, rv, hl, hz⟩ := I.list hs
  have hi := rv.ints
  obtain ⟨as, hr⟩ := reads_ints (h := s.heap) hi
  refine PySem.W.min_list_default (xs := ns.map PyData.int) (I.ok.hd hc) hl.isList hr (alike_ints ns) (by rw [PySem.W.ke_depthAll]; omega) (fun e h' tk hk => ?_) (fun y ys i v h' tk bs e hv hrd hk => ?_)
  · have e2 : ns = [] := List.map_eq_nil_iff.mp e
    subst e2
    exact ⟨.int d, H, I.kept hk, ⟨_, rfl⟩, q⟩
  · cases ns with
    | nil => cases e
    | cons n r =>
      have e2 := List.cons.inj e
      obtain ⟨e3, e4⟩ := e2
      subst e3 e4
      rw [PySem.W.minD_ints] at hrd
      cases hrd
      exact ⟨.int _, H, I.kept hk, ⟨_, rfl⟩, q⟩
section
variable {K : PySem.W.Frag} {σ : L2.St} {H : Hp} {ta tb : TE} {f : Int → Int → Int}
theorem ev_foldD {a : Addr} {ns : List Int} {d : Int} (ha : Ev ta σ H (.ref a)) (hb : Ev tb σ H (.int d)) (hS : SqL K H a (ns.map V.int)) : Ev (tCKw (rFoldD f K) (tCons ta tNil) (tCons tb tNil)) σ H (.int (foldD f d ns)) := fun H1 e Q q =>
  ha H1 e _ fun H2 e2 => hb H2 (e.trans e2) _ fun H3 e3 => ⟨a, ns, d, rfl, rfl, ex_l ((e.trans e2).trans e3) hS, q H3 (e2.trans e3)⟩
/-- if xs: a list by its truth -/
theorem et_list {a : Addr} {xs : List V} (ha : Ev ta σ H (.ref a)) (hS : SqL K H a xs) : EvT (fun σ H Q => ta σ H fun x H' => ∃ k, TruV K x H' k ∧ Q k H') σ H (!xs.isEmpty) := fun H1 e Q q =>
  ha H1 e _ fun H2 e2 => ⟨_, .inl ⟨xs, ex_l (e.trans e2) hS, rfl⟩, q H2 e2⟩
end

/-! ### forms of bodies, as data -/
def vD : V → PyData
  | .bl b => .bool b
  | .int i => .int i
  | .str s => .str s
  | _ => .none
theorem dp_vD {K : PySem.W.Frag} {H : Hp} {x : V} (h : Pl x) : Dp K H x (vD x) := by
  cases h with
  | non => exact .non
  | bl b => exact .bl b
  | int i => exact .int i
  | str s => exact .str s
theorem noL_vD (x : V) : noL (vD x) = true := by cases x <;> rfl
theorem DV.ok {x : V} (h : DV x) : Ok x := by
  cases h with
  | non => exact .non
  | bl b => exact .bl b
  | int i _ => exact .int i
  | str l _ hc => exact .str _ (strOk_S fun c h => signs_ok c (hc c h))
def PV (x : V) : Prop := DV x ∧ x ≠ .non
def PVs (xs : List V) : Prop := (∀ x ∈ xs, PV x) ∧ xs.length ≤ 40
theorem PVs.pl {xs : List V} (h : PVs xs) {x : V} (hx : x ∈ xs) : Pl x := (h.1 x hx).1.pl
theorem PVs.ok {xs : List V} (h : PVs xs) {x : V} (hx : x ∈ xs) : Ok x := (h.1 x hx).1.ok
theorem dps_vD {K : PySem.W.Frag} {H : Hp} : ∀ {xs : List V}, (∀ x ∈ xs, Pl x) → DpAll K H xs (xs.map vD)
  | [], _ => .nil
  | x :: r, h => .cons (dp_vD (h x List.mem_cons_self)) (dps_vD fun y hy => h y (List.mem_cons_of_mem _ hy))
def sameB (x y : V) : Bool := PyData.eqv (rkD x) (rkD y)
def allSame (xs : List V) : Bool := xs.all fun x => sameB x (xs.headD .non)
def plainD (xs : List V) : PyData := .tuple [.str "plain", .tuple (xs.map vD)]
def constD (xs : List V) : PyData := if (xs.isEmpty || !allSame xs) = true then .none else .tuple [.str "constant", vD (xs.headD .non), .int xs.length]
def push (st : List (V × Nat)) (x : V) : List (V × Nat) := match st.getLast? with
  | some (y, c) => if sameB y x = true then st.dropLast ++ [(x, c + 1)] else st ++ [(x, 1)]
  | none => [(x, 1)]
def runsOf (xs : List V) : List (V × Nat) := xs.foldl push []
def pairD (t : V × Nat) : PyData := .tuple [vD t.1, .int t.2]
def runsD (xs : List V) : PyData := .tuple [.str "runs", .tuple ((runsOf xs).map pairD)]
def allInt (xs : List V) : Bool := xs.all isInt
def zOf : V → Int
  | .int i => i
  | _ => 0
def widthOf (l : Int) (ns : List Int) : Nat := Builtin.Int.intBits (foldD max 0 (ns.map fun n => n - l))
def bitsOf (l : Int) (ns : List Int) : Int := packN (widthOf l ns) (ns.map fun n => n - l)
def packedD (xs : List V) : PyData := if (!allInt xs) = true then .none else .tuple [.str "packed", .int (foldD min 0 (xs.map zOf)), .int xs.length, .int (widthOf (foldD min 0 (xs.map zOf)) (xs.map zOf)), .int (bitsOf (foldD min 0 (xs.map zOf)) (xs.map zOf))]
def stepsOf (ns : List Int) : List Int := (List.range (ns.length - 1)).map fun k => ns.getD (k + 1) 0 - ns.getD k 0
def deltasD (xs : List V) : PyData := if (xs.isEmpty || !allInt xs) = true then .none else .tuple [.str "deltas", vD (xs.headD .non), .int (foldD min 0 (stepsOf (xs.map zOf))), .int xs.length, .int (widthOf (foldD min 0 (stepsOf (xs.map zOf))) (stepsOf (xs.map zOf))), .int (bitsOf (foldD min 0 (stepsOf (xs.map zOf))) (stepsOf (xs.map zOf)))]
/-- a def that gives a body of present values -/
def spB (d : List V → PyData) (K : PySem.W.Frag) : Sp := fun vs H Q _ => ∃ (a : Addr) (xs : List V), vs = [.ref a] ∧ SqL K H a xs ∧ PVs xs ∧ ∀ v H', Ex H H' → Dp K H' v (d xs) → Q v H'
def sp__plain (K : PySem.W.Frag) : Sp := spB plainD K
def sp__constant (K : PySem.W.Frag) : Sp := spB constD K
def sp__runs (K : PySem.W.Frag) : Sp := spB runsD K
section
variable {K : PySem.W.Frag} {σ : L2.St} {H H' : Hp} {ta tb te tl : TE} {D : Ends} {tz : TS} {d : PyData} {ds : List PyData}
theorem s_retD (h : EvD K te σ H d) (k : ∀ v H1, Ex H H1 → Dp K H1 v d → D.rt v H1) : tRet te D σ H := h H (Ex.refl H) _ fun v H1 e hd => k v H1 e hd
theorem ud_tupleL {a : Addr} {xs : List V} (ha : Ev tl σ H (.ref a)) (hS : SqL K H a xs) (hd : DpAll K H xs ds) : EvUD K (tCB (fun xs H Q => ∃ p ys, xs = [.ref p] ∧ ((SqL K H p ys ∧ ∀ l, H l = none → Q (.ref l) (upd H l (.tup ys))) ∨ (SqT K H p ys ∧ Q (.ref p) H))) (tCons tl tNil)) σ H ds := fun H1 e Q q =>
  ha H1 e _ fun H2 e2 => ⟨a, xs, rfl, .inl ⟨ex_l (e.trans e2) hS, fun l hl => q l _ xs (fresh_back e2 hl) (e2.trans (Ex.new hl)) upd_same (ex_dps ((e.trans e2).trans (Ex.new hl)) hd)⟩⟩
theorem ev_all {bs : List Bool} (ha : EvL ta σ H (bs.map V.bl)) : Ev (tCB (rAll K) (tCons ta tNil)) σ H (.bl (bs.all id)) := fun H1 e Q q =>
  ha H1 e _ fun p H2 _ e2 h2 => ⟨p, bs, rfl, sq_of h2, q H2 e2⟩
theorem ixN_last (n : Nat) : ixN (n + 1) (-1) = some n := by
  unfold ixN
  rw [if_neg (by omega), if_pos (by omega)]
  congr 1
  omega
theorem atI_last {α : Type} (ri : List α) (r : α) : atI (ri ++ [r]) (-1) = some r := by
  unfold atI
  rw [List.length_append, show ri.length + [r].length = ri.length + 1 from rfl, ixN_last]
  show (ri ++ [r])[ri.length]? = some r
  rw [List.getElem?_append_right (Nat.le_refl _), Nat.sub_self]
  rfl
theorem dps_last : ∀ {rs : List V} {ds : List PyData} {d : PyData}, DpAll K H rs (ds ++ [d]) → ∃ ri r, rs = ri ++ [r] ∧ DpAll K H ri ds ∧ Dp K H r d
  | _, [], _, h => by
    cases h with
    | cons h1 h2 =>
      cases h2
      exact ⟨[], _, rfl, .nil, h1⟩
  | _, _ :: ds, _, h => by
    cases h with
    | cons h1 h2 =>
      obtain ⟨ri, r, e, h3, h4⟩ := dps_last (ds := ds) h2
      exact ⟨_ :: ri, r, by rw [e]; rfl, .cons h1 h3, h4⟩
theorem dp_plain {x y : V} (h : Dp K H y (vD x)) (hx : Pl x) : y = x := by
  cases hx <;> cases h <;> rfl
theorem dp_pair {r x : V} {c : Nat} (h : Dp K H r (pairD (x, c))) (hx : Pl x) : ∃ b, r = .ref b ∧ SqT K H b [x, .int (c : Int)] := by
  unfold pairD at h
  cases h with
  | tup hS hd =>
    cases hd with
    | cons h1 h2 =>
      cases h2 with
      | cons h3 h4 =>
        cases h4
        cases h3
        have e := dp_plain h1 hx
        subst e
        exact ⟨_, rfl, hS⟩
theorem s_setLastD {l : Addr} {ri : List V} {r : V} (hl : H l = some (.lst (ri ++ [r]))) (h : EvD K te σ H d) (ho : Ev ta σ H (.ref l)) (hi : Ev tb σ H (.int (-1))) (k : ∀ v H1, Ex H H1 → Dp K H1 v d → D.nx σ (upd H1 l (.lst (ri ++ [v])))) : tAsg te (gSub ta tb rSetL) D σ H :=
  h H (Ex.refl H) _ fun v H1 e1 hd => ho H1 e1 _ fun H2 e2 => hi H2 (e1.trans e2) _ fun H3 e3 => ⟨l, ri ++ [r], -1, ri.length, rfl, rfl, ((e1.trans e2).trans e3) _ _ hl, by rw [List.length_append]; exact ixN_last _, by
    have e : (ri ++ [r]).set ri.length v = ri ++ [v] := by
      rw [List.set_append_right _ _ (Nat.le_refl _), Nat.sub_self]
      rfl
    rw [e]
    exact k v H3 ((e1.trans e2).trans e3) (ex_dp (e2.trans e3) hd)⟩
theorem s_appD {l : Addr} {xs : List V} (hl : H l = some (.lst xs)) (ha : Ev ta σ H (.ref l)) (h : EvD K te σ H d) (hz : xs.length < 100000) (k : ∀ v H1, Ex H H1 → Dp K H1 v d → D.nx σ (upd H1 l (.lst (xs ++ [v])))) :
    tDrop (tBM K "list" rAppend ta (tCons te tNil)) D σ H := ha H (Ex.refl H) _ fun H1 e1 =>
  ⟨Or.inl ⟨rfl, xs, sq_of (e1 l _ hl)⟩, h H1 e1 _ fun v H2 e2 hd => ⟨l, xs, v, rfl, rfl, e2 l _ (e1 l _ hl), sz_lt hz, k v H2 (e1.trans e2) hd⟩⟩
end
section
variable {P : Program} {w : World} {K : PySem.W.Frag} {mg : Str → Option Value} {base : Heap}
theorem ok__plain (D : Dn K mg "_plain" s__plain ["present"]) (z_tuple : mg "tuple" = none) :
    C8.Cal P w K mg base 1 "_plain" (sp__plain K) [] := by
  refine cal_of D sc__plain (fun vs H Q E h => ?_) (fun f cdv A outer s H vs Q E hr h => ?_)
  · obtain ⟨_, _, rfl, _⟩ := h
    rfl
  refine ⟨_, (pss_one (ps_ret (pe_tup (pa_cons pe_str (pa_cons (pe_callTy call_tuple_of (by rfl) z_tuple (by decide +kernel) (pa_cons (pv 0) pa_nil)) pa_nil))))), ?_⟩
  obtain ⟨a, xs, rfl, hS, hx, q⟩ := h
  exact s_retD (K := K) (ed_tupU (ud_tup (ad_cons (ed_val ev_c (.str _)) (ad_cons (ed_tupU (ud_tupleL (ev_var rfl) hS (dps_vD fun x h => hx.pl h))) ad_nil)) (by show 2 ≤ 100000; decide))) q
theorem ok__constant (D : Dn K mg "_constant" s__constant ["present"]) (c_same : C8.Cal P w K mg base 3 "same" (sp_same K) []) (z_all : mg "all" = none) (z_len : mg "len" = none) :
    C8.Cal P w K mg base 4 "_constant" (sp__constant K) [] := by
  refine cal_of D sc__constant (fun vs H Q E h => ?_) (fun f cdv A outer s H vs Q E hr h => ?_)
  · obtain ⟨_, _, rfl, _⟩ := h
    rfl
  refine ⟨_, (pss_cons (ps_if (PW.pt (pw_or (pt_not (pt_truth (pv 0) (by intro _; rfl))) (pw_or1 (pt_not (pt_val (pe_callB (cr_all rfl) (by rfl) z_all (by decide +kernel) (pa_cons (pe_lc (own := [("value", 1)]) (g := gName 1) (tt := tYes) rfl sc__constant.nd (pi_list (pv 0)) (blkOk_by (N := n__constant) (sc := C8.fnScope s__constant) (by decide +kernel)) (fun _ _ _ _ _ => pg_name (i := 1) sc__constant.nd rfl (Or.inl rfl)) (fun _ _ _ _ _ => pts_nil) (fun _ _ _ _ _ => (C8.pe_c c_same hr (by decide) (by rfl) (pa_cons (pv 1) (pa_cons (pe_ix (ix_listK (K := K) rfl) (pv 0) pe_int (fun _ _ => rfl)) pa_nil))))) pa_nil)))))))
      (pss_one (ps_ret pe_non))
      pss_nil)
    (pss_one (ps_ret (pe_tup (pa_cons pe_str (pa_cons (pe_ix ix_list (pv 0) pe_int (fun _ _ => rfl)) (pa_cons (pe_callB call_len_seq (by rfl) z_len PySem.boot_len (pa_cons (pv 0) pa_nil)) pa_nil))))))), ?_⟩
  obtain ⟨a, xs, rfl, hS, hx, q⟩ := h
  have hz : xs.length ≤ 40 := hx.2
  unfold constD at q
  refine q_when (b := !(!xs.isEmpty) || !allSame xs) (et_or (et_not (et_list (ev_var rfl) hS)) fun hne => et_not (et_B ?_)) (fun hb H1 e1 => s_retD (K := K) (d := .none) (ed_val ev_c .non) fun v H2 e2 hd => q v H2 (e1.trans e2) ?_) fun hb H1 e1 => ?_
  · have hne' : xs ≠ [] := fun z => by rw [z] at hne; exact nomatch hne
    obtain ⟨x0, r, rfl⟩ := List.exists_cons_of_ne_nil hne'
    have e : allSame (x0 :: r) = (((x0 :: r).map fun x => sameB x x0).all id) := by
      unfold allSame
      rw [List.all_map]
      rfl
    rw [e]
    refine ev_all ?_
    have e2 : ((x0 :: r).map fun x => sameB x x0).map V.bl = given (x0 :: r).length (fun _ => true) (fun i => V.bl (sameB ((x0 :: r).getD i .non) x0)) := by
      rw [given_all, List.map_map]
      apply List.ext_getElem?
      intro i
      rw [List.getElem?_map, List.getElem?_map]
      by_cases h : i < (x0 :: r).length
      · rw [List.getElem?_range h, List.getElem?_eq_getElem h]
        show some _ = some (V.bl (sameB ((x0 :: r).getD i .non) x0))
        rw [List.getD_eq_getElem?_getD, List.getElem?_eq_getElem h]
        rfl
      · rw [List.getElem?_eq_none (by omega), List.getElem?_eq_none (by rw [List.length_range]; omega)]
        rfl
    rw [e2]
    refine el_lcL (fun _ => true) _ (ev_var rfl) hS (by omega) (fun _ => rfl) (fun i x H1 e1 hi H4 e4 Q k => k H4 (Ex.refl H4)) fun i x H1 e1 hi _ => ?_
    have eg : (x0 :: r).getD i .non = x := by rw [List.getD_eq_getElem?_getD, hi]; rfl
    rw [eg]
    exact ec_same (ev_var rfl) (ev_op (ev_var rfl) ev_c (rv_ixL (ex_l e1 hS) (atI_nat (j := 0) rfl))) (hx.ok (List.mem_of_getElem? hi)) (hx.ok List.mem_cons_self)
  · have hc : (xs.isEmpty || !allSame xs) = true := by rw [← hb, Bool.not_not]
    rw [if_pos hc]
    exact hd
  · have hc : (xs.isEmpty || !allSame xs) = false := by rw [← hb, Bool.not_not]
    rw [if_neg (by rw [hc]; decide)] at q
    have hne' : xs ≠ [] := fun z => by rw [z] at hc; exact nomatch hc
    obtain ⟨x0, r, rfl⟩ := List.exists_cons_of_ne_nil hne'
    exact s_retD (K := K) (ed_tupU (ud_tup (ad_cons (ed_val ev_c (.str _)) (ad_cons (ed_val (ev_op (ev_var rfl) ev_c (rv_ixL (ex_l e1 hS) (atI_nat (j := 0) rfl))) (dp_vD (hx.pl List.mem_cons_self))) (ad_cons (ed_val (ev_len (ev_var rfl) (ex_l e1 hS)) (.int _)) ad_nil))) (by show 3 ≤ 100000; decide))) fun v H2 e2 hd => q v H2 (e1.trans e2) hd
theorem noL_pair (t : V × Nat) : noL (pairD t) = true := by
  unfold pairD
  show (noL (vD t.1) && (true && true)) = true
  rw [noL_vD]
  rfl
theorem noLs_pairs : ∀ st : List (V × Nat), noLs (st.map pairD) = true
  | [] => rfl
  | t :: r => by
    show (noL (pairD t) && noLs (r.map pairD)) = true
    rw [noL_pair, noLs_pairs r]
    rfl
theorem push_some {st : List (V × Nat)} {y x : V} {c : Nat} : push (st ++ [(y, c)]) x = if sameB y x = true then st ++ [(x, c + 1)] else st ++ [(y, c)] ++ [(x, 1)] := by
  unfold push
  rw [List.getLast?_concat, List.dropLast_concat]
theorem push_nil (x : V) : push [] x = [(x, 1)] := rfl
theorem push_len (st : List (V × Nat)) (x : V) : (push st x).length ≤ st.length + 1 := by
  rcases List.eq_nil_or_concat st with h | ⟨i, t, h⟩
  · subst h; exact Nat.le_refl 1
  · subst h
    rw [List.concat_eq_append, push_some (y := t.1) (c := t.2)]
    split <;> simp
theorem push_pl {st : List (V × Nat)} {x : V} (h : ∀ t ∈ st, PV t.1) (hx : PV x) : ∀ t ∈ push st x, PV t.1 := by
  rcases List.eq_nil_or_concat st with e | ⟨i, t, e⟩
  · subst e
    intro t ht
    rw [push_nil] at ht
    rw [List.mem_singleton.mp ht]
    exact hx
  · subst e
    rw [List.concat_eq_append] at h ⊢
    rw [push_some (y := t.1) (c := t.2)]
    intro u hu
    split at hu
    · rcases List.mem_append.mp hu with z | z
      · exact h u (List.mem_append_left _ z)
      · rw [List.mem_singleton.mp z]; exact hx
    · rcases List.mem_append.mp hu with z | z
      · exact h u z
      · rw [List.mem_singleton.mp z]; exact hx
theorem runs_len : ∀ (xs : List V) (st : List (V × Nat)), (xs.foldl push st).length ≤ st.length + xs.length
  | [], _ => Nat.le_refl _
  | x :: r, st => by
    have h1 := runs_len r (push st x)
    have h2 := push_len st x
    rw [List.foldl_cons, List.length_cons]
    omega
theorem ok__runs (D : Dn K mg "_runs" s__runs ["present"]) (c_same : C8.Cal P w K mg base 3 "same" (sp_same K) []) (z_tuple : mg "tuple" = none) :
    C8.Cal P w K mg base 4 "_runs" (sp__runs K) [] := by
  refine cal_of D sc__runs (fun vs H Q E h => ?_) (fun f cdv A outer s H vs Q E hr h => ?_)
  · obtain ⟨_, _, rfl, _⟩ := h
    rfl
  refine ⟨_, (pss_cons (ps_set (i := 1) sc__runs.nd rfl (.inl rfl) (pe_lst pa_nil))
    (pss_cons (ps_for PassesOwn.never rfl (pi_list (pv 0)) (pg_name (i := 2) sc__runs.nd rfl (.inl rfl))
      (pss_one (ps_if (PW.pt (pw_and (pt_truth (pv 1) (by intro _; rfl)) (pw_and1 (pt_val (C8.pe_c c_same hr (by decide) (by rfl) (pa_cons (pe_ix ix_tup (pe_ix ix_list (pv 1) (pe_un un_neg pe_int) (fun _ _ => rfl)) pe_int (fun _ _ => rfl)) (pa_cons (pv 2) pa_nil)))))))
      (pss_one (ps_asg (pe_tup (pa_cons (pv 2) (pa_cons (pe_op op_add (pe_ix ix_tup (pe_ix ix_list (pv 1) (pe_un un_neg pe_int) (fun _ _ => rfl)) pe_int (fun _ _ => rfl)) pe_int) pa_nil))) (pg_sub (pv 1) (pe_un un_neg pe_int) set_list)))
      (pss_one (ps_expr (pe_bm PySem.F.plainAttrs_list PySem.F.slot_list_append PySem.F.type_list_append mt_append (pv 1) (pa_cons (pe_tup (pa_cons (pv 2) (pa_cons pe_int pa_nil))) pa_nil)))))))
    (pss_one (ps_ret (pe_tup (pa_cons pe_str (pa_cons (pe_callTy call_tuple_of (by rfl) z_tuple (by decide +kernel) (pa_cons (pv 1) pa_nil)) pa_nil))))))), ?_⟩
  obtain ⟨a, xs, rfl, hS, hx, q⟩ := h
  refine q_asgL (el_lst ea_nil (by decide)) fun p H1 hp e1 h1 => ?_
  refine q_forLn (ev_var rfl) (ex_l e1 hS) (fun i σ' H' => ∃ rs v2, σ' = [some (.ref a), some (.ref p), v2] ∧ Ex H H' ∧ H' p = some (.lst rs) ∧ DpAll K H' rs (((xs.take i).foldl push []).map pairD) ∧ (∀ t ∈ (xs.take i).foldl push [], PV t.1)) (fun H2 e2 => ⟨[], none, rfl, e1.trans e2, e2 _ _ h1, .nil, fun t ht => by cases ht⟩) (fun i σ' H' _ pv => ?_) (fun i x σ' H' hxi pv => ?_) fun σ' H' pv => ?_
  · obtain ⟨rs, v2, rfl, e, _⟩ := pv
    exact ex_l e hS
  · obtain ⟨rs, v2, rfl, e, hrs, hd, hpl⟩ := pv
    have hPx := hx.1 x (List.mem_of_getElem? hxi)
    have hlen := runs_len (xs.take i) []
    rw [foldl_take hxi]
    have hi40 : (xs.take i).length ≤ 40 := by rw [List.length_take]; have := hx.2; omega
    generalize (xs.take i).foldl push [] = st at *
    have hrl : rs.length = st.length := by have := dps_len hd; rw [List.length_map] at this; exact this
    have hrl2 : rs.length < 100000 := by have := hx.2; simp at hlen; omega
    have hnext := push_pl hpl hPx
    rcases List.eq_nil_or_concat st with h0 | ⟨init, t, h0⟩
    · subst h0
      have hr0 : rs = [] := List.length_eq_zero_iff.mp (by rw [hrl]; rfl)
      subst hr0
      refine s_if (b := !(([] : List V).isEmpty) && true) (et_and (et_list (ev_var rfl) (sq_of hrs)) fun z => nomatch z) (fun hb => nomatch hb) fun _ H2 e2 => ?_
      refine s_appD (K := K) (d := pairD (x, 1)) (e2 _ _ hrs) (ev_var rfl) (ed_tupU (ud_tup (ad_cons (ed_val (ev_var rfl) (dp_vD hPx.1.pl)) (ad_cons (ed_val ev_c (.int _)) ad_nil)) (by show 2 ≤ 100000; decide))) hrl2 fun v H3 e3 hv => ⟨_, _, rfl, Ex.mut ((e.trans e2).trans e3) hp, upd_same, ?_, hnext⟩
      exact dps_upd ((e2.trans e3) _ _ hrs) (noLs_pairs [(x, 1)]) (.cons hv .nil)
    · obtain ⟨y, c⟩ := t
      rw [List.concat_eq_append] at h0
      subst h0
      rw [List.map_append] at hd
      obtain ⟨ri, r, rfl, hd1, hd2⟩ := dps_last (d := pairD (y, c)) hd
      have hPy : PV y := hpl (y, c) (List.mem_append_right _ List.mem_cons_self)
      obtain ⟨b, rfl, hb⟩ := dp_pair hd2 hPy.1.pl
      have hne : (ri ++ [V.ref b]).isEmpty = false := by cases ri <;> rfl
      have lastE : ∀ {σ : L2.St} {H0 : Hp} {v : V} {j : Nat}, σ[1]? = some (some (.ref p)) → Ex H' H0 → ([y, .int (c : Int)] : List V)[j]? = some v → Ev (tOp (rIxT K) (tOp (rIxL K) (tVar 1) (tUn (rU fun i => .int (-i)) (tC (.int 1)))) (tC (.int (j : Int)))) σ H0 v := fun h0 e0 hj =>
        ev_op (ev_op (ev_var h0) (ev_un ev_c ru_neg) (rv_ixL (sq_of (e0 _ _ hrs)) (atI_last ri (.ref b)))) ev_c (rv_ixT (ex_t e0 hb) (atI_nat hj))
      refine s_if (b := !((ri ++ [V.ref b]).isEmpty) && sameB y x) (et_and (et_list (ev_var rfl) (sq_of hrs)) fun _ => et_B (ec_same (lastE (j := 0) rfl (Ex.refl _) rfl) (ev_var rfl) hPy.1.ok hPx.1.ok)) (fun hb2 H2 e2 => ?_) fun hb2 H2 e2 => ?_
      · rw [hne, Bool.not_false, Bool.true_and] at hb2
        refine s_setLastD (K := K) (d := pairD (x, c + 1)) (e2 _ _ hrs) (ed_tupU (ud_tup (ad_cons (ed_val (ev_var rfl) (dp_vD hPx.1.pl)) (ad_cons (ed_val (ev_is (ev_op (lastE (j := 1) rfl e2 rfl) ev_c rv_I0) (by congr 1)) (.int _)) ad_nil)) (by show 2 ≤ 100000; decide))) (ev_var rfl) (ev_un ev_c ru_neg) fun v H3 e3 hv => ⟨_, _, rfl, Ex.mut ((e.trans e2).trans e3) hp, upd_same, ?_, hnext⟩
        rw [push_some, if_pos hb2]
        refine dps_upd ((e2.trans e3) _ _ hrs) (noLs_pairs _) ?_
        rw [List.map_append]
        exact dps_snoc (ex_dps (e2.trans e3) hd1) hv
      · rw [hne, Bool.not_false, Bool.true_and] at hb2
        refine s_appD (K := K) (d := pairD (x, 1)) (e2 _ _ hrs) (ev_var rfl) (ed_tupU (ud_tup (ad_cons (ed_val (ev_var rfl) (dp_vD hPx.1.pl)) (ad_cons (ed_val ev_c (.int _)) ad_nil)) (by show 2 ≤ 100000; decide))) hrl2 fun v H3 e3 hv => ⟨_, _, rfl, Ex.mut ((e.trans e2).trans e3) hp, upd_same, ?_, hnext⟩
        rw [push_some, if_neg (by rw [hb2]; decide)]
        refine dps_upd ((e2.trans e3) _ _ hrs) (noLs_pairs _) ?_
        rw [List.map_append, List.map_append]
        exact dps_snoc (ex_dps (e2.trans e3) hd) hv
  · obtain ⟨rs, v2, rfl, e, hrs, hd, _⟩ := pv
    rw [List.take_length] at hd
    exact s_retD (K := K) (ed_tupU (ud_tup (ad_cons (ed_val ev_c (.str _)) (ad_cons (ed_tupU (ud_tupleL (ev_var rfl) (sq_of hrs) hd)) ad_nil)) (by show 2 ≤ 100000; decide))) fun v H2 e2 hv => q v H2 (e.trans e2) hv
end

section
variable {K : PySem.W.Frag} {σ : L2.St} {H : Hp} {tl te : TE}
/-- [g(x) for x in xs] -/
theorem el_mapL {α : Type} {xs : List α} {k g : α → V} {a : Addr} {j : Nat} {vs : List Nat} (h : Ev tl σ H (.ref a)) (hx : SqL K H a (xs.map k)) (hz : xs.length ≤ 40000) (hw : ∀ x, wipe ((wipe σ vs).set j (some x)) vs = wipe σ vs)
    (he : ∀ (x : α) H1, Ex H H1 → x ∈ xs → Ev te ((wipe σ vs).set j (some (k x))) H1 (g x)) : EvL (tLc (iList K tl) (gName j) tYes te vs) σ H (xs.map g) := by
  have e : xs.map g = given (xs.map k).length (fun _ => true) (fun i => (xs[i]?.map g).getD .non) := by
    rw [given_all, List.length_map]
    apply List.ext_getElem?
    intro i
    rw [List.getElem?_map, List.getElem?_map]
    by_cases h : i < xs.length
    · rw [List.getElem?_range h, List.getElem?_eq_getElem h]
      show some _ = some ((xs[i]?.map g).getD .non)
      rw [List.getElem?_eq_getElem h]
      rfl
    · rw [List.getElem?_eq_none (by omega), List.getElem?_eq_none (by rw [List.length_range]; omega)]
      rfl
  rw [e]
  refine el_lcL (fun _ => true) _ h hx (by rw [List.length_map]; exact hz) hw (fun i x H1 e1 hi H4 e4 Q k => k H4 (Ex.refl H4)) fun i x H1 e1 hi _ => ?_
  rw [List.getElem?_map] at hi
  obtain ⟨y, hy, rfl⟩ := Option.map_eq_some_iff.mp hi
  rw [hy]
  exact he y H1 e1 (List.mem_of_getElem? hy)
end
/-! ### least and greatest -/
theorem fold_mem {f : Int → Int → Int} (hf : ∀ a b, f a b = a ∨ f a b = b) : ∀ (r : List Int) (n : Int), r.foldl f n = n ∨ r.foldl f n ∈ r
  | [], n => .inl rfl
  | x :: r, n => by
    rw [List.foldl_cons]
    rcases fold_mem hf r (f n x) with h | h
    · rw [h]
      rcases hf n x with h2 | h2
      · exact .inl h2
      · exact .inr (by rw [h2]; exact List.mem_cons_self)
    · exact .inr (List.mem_cons_of_mem _ h)
theorem foldD_mem {f : Int → Int → Int} (hf : ∀ a b, f a b = a ∨ f a b = b) {d : Int} : ∀ xs : List Int, (xs = [] ∧ foldD f d xs = d) ∨ foldD f d xs ∈ xs
  | [] => .inl ⟨rfl, rfl⟩
  | n :: r => .inr (by
    show r.foldl f n ∈ n :: r
    rcases fold_mem hf r n with h | h
    · rw [h]; exact List.mem_cons_self
    · exact List.mem_cons_of_mem _ h)
theorem max_or (a b : Int) : max a b = a ∨ max a b = b := by omega
theorem min_or (a b : Int) : min a b = a ∨ min a b = b := by omega
theorem fold_max_ge : ∀ (r : List Int) (n : Int), n ≤ r.foldl max n ∧ ∀ x ∈ r, x ≤ r.foldl max n
  | [], n => ⟨Int.le_refl n, fun x h => by cases h⟩
  | y :: r, n => by
    rw [List.foldl_cons]
    obtain ⟨h1, h2⟩ := fold_max_ge r (max n y)
    refine ⟨by omega, fun x hx => ?_⟩
    rcases List.mem_cons.mp hx with h | h
    · subst h; omega
    · exact h2 x h
theorem fold_min_le : ∀ (r : List Int) (n : Int), r.foldl min n ≤ n ∧ ∀ x ∈ r, r.foldl min n ≤ x
  | [], n => ⟨Int.le_refl n, fun x h => by cases h⟩
  | y :: r, n => by
    rw [List.foldl_cons]
    obtain ⟨h1, h2⟩ := fold_min_le r (min n y)
    refine ⟨by omega, fun x hx => ?_⟩
    rcases List.mem_cons.mp hx with h | h
    · subst h; omega
    · exact h2 x h
theorem foldD_max_ge {d x : Int} : ∀ {xs : List Int}, x ∈ xs → x ≤ foldD max d xs
  | n :: r, h => by
    show x ≤ r.foldl max n
    rcases List.mem_cons.mp h with h | h
    · rw [h]; exact (fold_max_ge r n).1
    · exact (fold_max_ge r n).2 x h
theorem foldD_min_le {d x : Int} : ∀ {xs : List Int}, x ∈ xs → foldD min d xs ≤ x
  | n :: r, h => by
    show r.foldl min n ≤ x
    rcases List.mem_cons.mp h with h | h
    · rw [h]; exact (fold_min_le r n).1
    · exact (fold_min_le r n).2 x h
def Low (l : Int) (ns : List Int) : Prop := ∀ n ∈ ns, l ≤ n ∧ n - l < 1152921504606846976
theorem rests_max {l : Int} {ns : List Int} (h : Low l ns) : 0 ≤ foldD max 0 (ns.map fun n => n - l) ∧ foldD max 0 (ns.map fun n => n - l) < 1152921504606846976 := by
  rcases foldD_mem (d := 0) max_or (ns.map fun n => n - l) with ⟨_, e⟩ | e
  · rw [e]; decide
  · obtain ⟨n, hn, e2⟩ := List.mem_map.mp e
    have := h n hn
    omega
theorem width_le {l : Int} {ns : List Int} (h : Low l ns) : widthOf l ns ≤ 60 := by
  unfold widthOf
  refine intBits_le_iff.mpr ?_
  have := rests_max h
  have e : (2 : Nat) ^ 60 = 1152921504606846976 := by decide
  rw [e]
  omega
theorem inW_of {l : Int} {ns : List Int} (h : Low l ns) : InW (widthOf l ns) (ns.map fun n => n - l) := by
  intro x hx
  have h1 := foldD_max_ge (d := 0) hx
  obtain ⟨n, hn, e⟩ := List.mem_map.mp hx
  have hl := h n hn
  refine ⟨by omega, ?_⟩
  have h2 : (foldD max 0 (ns.map fun n => n - l)).natAbs < 2 ^ widthOf l ns := intBits_le_iff.mp (Nat.le_refl _)
  have h3 : (((foldD max 0 (ns.map fun n => n - l)).natAbs : Nat) : Int) < ((2 ^ widthOf l ns : Nat) : Int) := Int.ofNat_lt.mpr h2
  rw [PySem.W.kbt_cast] at h3
  omega
theorem low_min {ns : List Int} (h : ∀ n ∈ ns, -2000000000000000 ≤ n ∧ n ≤ 2000000000000000) : Low (foldD min 0 ns) ns := by
  intro n hn
  have h1 := foldD_min_le (d := 0) hn
  refine ⟨h1, ?_⟩
  have h2 := h n hn
  rcases foldD_mem (d := 0) min_or ns with ⟨e, _⟩ | e
  · rw [e] at hn; cases hn
  · have := h _ e
    omega
theorem ints_eq : ∀ {xs : List V}, allInt xs = true → xs = (xs.map zOf).map V.int
  | [], _ => rfl
  | x :: r, h => by
    unfold allInt at h
    rw [List.all_cons, Bool.and_eq_true] at h
    have ih := ints_eq (xs := r) h.2
    cases x with
    | int i =>
      show V.int i :: r = V.int i :: (r.map zOf).map V.int
      rw [← ih]
    | _ => exact nomatch h.1
theorem ints_in {xs : List V} (h : PVs xs) : ∀ n ∈ xs.map zOf, -1000000000000000 ≤ n ∧ n ≤ 1000000000000000 := by
  intro n hn
  obtain ⟨x, hx, rfl⟩ := List.mem_map.mp hn
  cases (h.1 x hx).1 with
  | int i hi => exact hi
  | _ =>
    show -1000000000000000 ≤ (0 : Int) ∧ (0 : Int) ≤ 1000000000000000
    exact ⟨by decide, by decide⟩
def sp__packed_above (K : PySem.W.Frag) : Sp := fun vs H Q _ => ∃ (l : Int) (a : Addr) (ns : List Int), vs = [.int l, .ref a] ∧ SqL K H a (ns.map V.int) ∧ ns.length ≤ 40 ∧ Low l ns ∧ ∀ p H', H p = none → Ex H H' → H' p = some (.tup [.int (widthOf l ns : Nat), .int (bitsOf l ns)]) → Q (.ref p) H'
def sp__are_integers (K : PySem.W.Frag) : Sp := fun vs H Q _ => ∃ (a : Addr) (xs : List V), vs = [.ref a] ∧ SqL K H a xs ∧ PVs xs ∧ ∀ H', Ex H H' → Q (.bl (allInt xs)) H'
def sp__packed (K : PySem.W.Frag) : Sp := spB packedD K
section
variable {P : Program} {w : World} {K : PySem.W.Frag} {mg : Str → Option Value} {base : Heap}
theorem ok__packed_above (D : Dn K mg "_packed_above" s__packed_above ["least", "numbers"]) (c_pack : C8.Cal P w K mg base 1 "pack" (sp_pack K) []) (c_width_for : C8.Cal P w K mg base 1 "width_for" (sp_width_for K) []) (z_max : mg "max" = none) :
    C8.Cal P w K mg base 2 "_packed_above" (sp__packed_above K) [] := by
  refine cal_of D sc__packed_above (fun vs H Q E h => ?_) (fun f cdv A outer s H vs Q E hr h => ?_)
  · obtain ⟨_, _, _, rfl, _⟩ := h
    rfl
  refine ⟨_, (pss_cons (ps_setLc (i := 2) (own := [("number", 4)]) (g := gName 4) (tt := tYes) rfl sc__packed_above.nd rfl rfl (sw_true rfl rfl rfl (by decide +kernel)) (pi_list (pv 1)) (blkOk_by (N := n__packed_above) (sc := C8.fnScope s__packed_above) (by decide +kernel)) (fun _ _ _ _ _ => pg_name (i := 4) sc__packed_above.nd rfl (Or.inl rfl)) (fun _ _ _ _ _ => pts_nil) (fun _ _ _ _ _ => (pe_op op_sub (pv 4) (pv 0))))
    (pss_cons (ps_set (i := 3) sc__packed_above.nd rfl (.inl rfl) (C8.pe_c c_width_for hr (by decide) (by rfl) (pa_cons (pe_callBK (cr_maxDef rfl (hu64 hr)) (by rfl) z_max (by decide +kernel) (pa_cons (pv 2) pa_nil) (pk_cons pe_int pk_nil)) pa_nil)))
    (pss_one (ps_ret (pe_tup (pa_cons (pv 3) (pa_cons (C8.pe_c c_pack hr (by decide) (by rfl) (pa_cons (pv 2) (pa_cons (pv 3) pa_nil))) pa_nil))))))), ?_⟩
  obtain ⟨l, a, ns, rfl, hS, hz, hb, q⟩ := h
  have hI := inW_of hb
  have hw := width_le hb
  refine q_asgL (xs := (ns.map fun n => n - l).map V.int) ?_ fun p H1 hp e1 h1 => ?_
  · rw [List.map_map]
    exact el_mapL (ev_var rfl) hS (by omega) (fun _ => rfl) fun n H1 e1 hn => ev_op (ev_var rfl) (ev_var rfl) rv_I0
  refine q_asg (v := .int (widthOf l ns : Nat)) (ev_call (ea_cons (ev_foldD (f := max) (ev_var rfl) ev_c (sq_of h1)) ea_nil) fun H2 e2 Q q E => ⟨_, rfl, q⟩) fun H2 e2 => ?_
  refine s_retU (xs := [.int (widthOf l ns : Nat), .int (bitsOf l ns)]) (eu_tup (ea_cons (ev_var rfl) (ea_cons (ev_call (ea_cons (ev_var rfl) (ea_cons (ev_var rfl) ea_nil)) fun H3 e3 Q q E => ⟨p, widthOf l ns, _, rfl, ex_l (e2.trans e3) (sq_of h1), hI, by omega, by rw [List.length_map]; omega, q⟩) ea_nil)) (by show 2 ≤ 100000; decide)) fun p H3 hp3 e3 h3 => q p H3 (fresh_back (e1.trans e2) hp3) ((e1.trans e2).trans e3) h3
theorem ok__are_integers (D : Dn K mg "_are_integers" s__are_integers ["present"]) (c_is_integer : C8.Cal P w K mg base 1 "is_integer" (sp_is_integer K) []) (z_all : mg "all" = none) :
    C8.Cal P w K mg base 2 "_are_integers" (sp__are_integers K) [] := by
  refine cal_of D sc__are_integers (fun vs H Q E h => ?_) (fun f cdv A outer s H vs Q E hr h => ?_)
  · obtain ⟨_, _, rfl, _⟩ := h
    rfl
  refine ⟨_, (pss_one (ps_ret (pe_callB (cr_all rfl) (by rfl) z_all (by decide +kernel) (pa_cons (pe_lc (own := [("value", 1)]) (g := gName 1) (tt := tYes) rfl sc__are_integers.nd (pi_list (pv 0)) (blkOk_by (N := n__are_integers) (sc := C8.fnScope s__are_integers) (by decide +kernel)) (fun _ _ _ _ _ => pg_name (i := 1) sc__are_integers.nd rfl (Or.inl rfl)) (fun _ _ _ _ _ => pts_nil) (fun _ _ _ _ _ => (C8.pe_c c_is_integer hr (by decide) (by rfl) (pa_cons (pv 1) pa_nil)))) pa_nil)))), ?_⟩
  obtain ⟨a, xs, rfl, hS, hx, q⟩ := h
  have hz := hx.2
  have e : allInt xs = (xs.map isInt).all id := by
    unfold allInt
    rw [List.all_map]
    rfl
  refine s_ret (v := .bl (allInt xs)) ?_ fun H2 e2 => q _ e2
  rw [e]
  refine ev_all ?_
  rw [List.map_map]
  refine el_mapL (k := fun x => x) (ev_var rfl) (by rw [List.map_id']; exact hS) (by omega) (fun _ => rfl) fun x H1 e1 hm => ec_isint0 (ev_var rfl) (hx.pl hm)
theorem ok__packed (D : Dn K mg "_packed" s__packed ["present"]) (c__are_integers : C8.Cal P w K mg base 2 "_are_integers" (sp__are_integers K) []) (c__packed_above : C8.Cal P w K mg base 2 "_packed_above" (sp__packed_above K) []) (z_len : mg "len" = none) (z_min : mg "min" = none) :
    C8.Cal P w K mg base 3 "_packed" (sp__packed K) [] := by
  refine cal_of D sc__packed (fun vs H Q E h => ?_) (fun f cdv A outer s H vs Q E hr h => ?_)
  · obtain ⟨_, _, rfl, _⟩ := h
    rfl
  refine ⟨_, (pss_cons (ps_if (pt_not (pt_val (C8.pe_c c__are_integers hr (by decide) (by rfl) (pa_cons (pv 0) pa_nil))))
      (pss_one (ps_ret pe_non))
      pss_nil)
    (pss_cons (ps_set (i := 1) sc__packed.nd rfl (.inl rfl) (pe_callBK (cr_minDef rfl (hu64 hr)) (by rfl) z_min (by decide +kernel) (pa_cons (pv 0) pa_nil) (pk_cons pe_int pk_nil)))
    (pss_cons (ps_asg (C8.pe_c c__packed_above hr (by decide) (by rfl) (pa_cons (pv 1) (pa_cons (pv 0) pa_nil))) (pg_tup rfl (pgs_cons (pg_name (i := 2) sc__packed.nd rfl (.inl rfl)) (pgs_cons (pg_name (i := 3) sc__packed.nd rfl (.inl rfl)) pgs_nil))))
    (pss_one (ps_ret (pe_tup (pa_cons pe_str (pa_cons (pv 1) (pa_cons (pe_callB call_len_seq (by rfl) z_len PySem.boot_len (pa_cons (pv 0) pa_nil)) (pa_cons (pv 2) (pa_cons (pv 3) pa_nil))))))))))), ?_⟩
  obtain ⟨a, xs, rfl, hS, hx, q⟩ := h
  have hz := hx.2
  unfold packedD at q
  refine q_when (b := !allInt xs) (et_not (et_B (ev_call (ea_cons (ev_var rfl) ea_nil) fun H1 e Q q E => ⟨a, xs, rfl, ex_l e hS, hx, q⟩))) (fun hb H1 e1 => s_retD (K := K) (d := .none) (ed_val ev_c .non) fun v H2 e2 hd => q v H2 (e1.trans e2) (by rw [if_pos hb]; exact hd)) fun hb H1 e1 => ?_
  rw [if_neg (by rw [hb]; decide)] at q
  have hxs := ints_eq (xs := xs) (by cases h : allInt xs with
    | true => rfl
    | false => rw [h] at hb; exact nomatch hb)
  have hr := ints_in hx
  have hln : (xs.map zOf).length = xs.length := List.length_map ..
  generalize xs.map zOf = ns at *
  subst hxs
  have hL := low_min (ns := ns) fun n hn => by have := hr n hn; omega
  refine q_asg (v := .int (foldD min 0 ns)) (ev_foldD (f := min) (ev_var rfl) ev_c (ex_l e1 hS)) fun H2 e2 => ?_
  refine q_asgG (eu_call (ea_cons (ev_var rfl) (ea_cons (ev_var rfl) ea_nil)) fun H3 e3 Q q E => ⟨_, a, ns, rfl, ex_l ((e1.trans e2).trans e3) hS, by omega, hL, q⟩) fun p H3 hp e3 h3 => gt2 (st_of h3) ?_
  exact s_retD (K := K) (ed_tupU (ud_tup (ad_cons (ed_val ev_c (.str _)) (ad_cons (ed_val (ev_var rfl) (.int _)) (ad_cons (ed_val (ev_len (ev_var rfl) (ex_l ((e1.trans e2).trans e3) hS)) (.int _)) (ad_cons (ed_val (ev_var rfl) (.int _)) (ad_cons (ed_val (ev_var rfl) (.int _)) ad_nil))))) (by show 5 ≤ 100000; decide))) fun v H4 e4 hd => q v H4 (((e1.trans e2).trans e3).trans e4) hd
end
/-! ### words and their places -/
def keyR (x : V) : List L2.Key := [Sum.inl (kr x), match payV x with
  | .int i => Sum.inl i
  | .str s => Sum.inr s
  | _ => Sum.inl 0]
theorem keyR_eq {x : V} (h : Ok x) : rkL x = (keyR x).map L2.kV := by cases h <;> rfl
def isW (x w : V) : Bool := decide (keyR w = keyR x)
def addW (ws : List V) (x : V) : List V := if ws.any (isW x) = true then ws else ws ++ [x]
def wordsOf (xs : List V) : List V := xs.foldl addW []
def placeOf (ws : List V) (x : V) : Nat := ws.findIdx (isW x)
def tabN (n : Nat) : List V → List (List L2.Key × V)
  | [] => []
  | w :: r => (keyR w, .int (n : Int)) :: tabN (n + 1) r
theorem tab_val : ∀ (ws : List V) (n : Nat) (x : V), valV (tabN n ws) (keyR x) = if ws.any (isW x) = true then some (.int ((n + placeOf ws x : Nat) : Int)) else none
  | [], _, _ => rfl
  | w :: r, n, x => by
    rw [tabN]
    by_cases e : keyR w = keyR x
    · rw [valV_pos (p := (keyR w, .int (n : Int))) e, List.any_cons, show isW x w = true from decide_eq_true e, Bool.true_or, if_pos rfl]
      have : placeOf (w :: r) x = 0 := by
        unfold placeOf
        rw [List.findIdx_cons, show isW x w = true from decide_eq_true e]
        rfl
      rw [this]
      rfl
    · rw [valV_neg (p := (keyR w, .int (n : Int))) e, List.any_cons, show isW x w = false from decide_eq_false e, Bool.false_or, tab_val r (n + 1) x]
      have : placeOf (w :: r) x = placeOf r x + 1 := by
        unfold placeOf
        rw [List.findIdx_cons, show isW x w = false from decide_eq_false e]
        rfl
      rw [this, show n + 1 + placeOf r x = n + (placeOf r x + 1) by omega]
theorem tab_snoc : ∀ (ws : List V) (n : Nat) (x : V), tabN n (ws ++ [x]) = tabN n ws ++ [(keyR x, .int ((n + ws.length : Nat) : Int))]
  | [], _, _ => rfl
  | w :: r, n, x => by
    rw [List.cons_append, tabN, tabN, tab_snoc r (n + 1) x, List.length_cons, show n + 1 + r.length = n + (r.length + 1) by omega]
    rfl
theorem tab_len : ∀ (ws : List V) (n : Nat), (tabN n ws).length = ws.length
  | [], _ => rfl
  | w :: r, n => by rw [tabN, List.length_cons, List.length_cons, tab_len r (n + 1)]
theorem addW_no {ws : List V} {x : V} (h : ws.any (isW x) = false) : addW ws x = ws ++ [x] := by
  unfold addW
  rw [if_neg (by rw [h]; decide)]
theorem addW_yes {ws : List V} {x : V} (h : ws.any (isW x) = true) : addW ws x = ws := by
  unfold addW
  rw [if_pos h]
theorem isW_self (x : V) : isW x x = true := decide_eq_true rfl
theorem addW_in (ws : List V) (x : V) : (addW ws x).any (isW x) = true := by
  cases h : ws.any (isW x) with
  | true => rw [addW_yes h]; exact h
  | false =>
    rw [addW_no h, List.any_append]
    show (_ || (isW x x || false)) = true
    rw [isW_self]
    simp
theorem addW_keeps {ws : List V} {x y : V} (h : ws.any (isW y) = true) : (addW ws x).any (isW y) = true := by
  cases h2 : ws.any (isW x) with
  | true => rw [addW_yes h2]; exact h
  | false => rw [addW_no h2, List.any_append, h, Bool.true_or]
theorem words_keep : ∀ (xs ws : List V) (y : V), ws.any (isW y) = true → (xs.foldl addW ws).any (isW y) = true
  | [], _, _, h => h
  | x :: r, ws, y, h => words_keep r (addW ws x) y (addW_keeps h)
theorem words_all : ∀ (xs ws : List V) (y : V), y ∈ xs → (xs.foldl addW ws).any (isW y) = true
  | x :: r, ws, y, h => by
    rw [List.foldl_cons]
    rcases List.mem_cons.mp h with h | h
    · subst h; exact words_keep r _ _ (addW_in ws y)
    · exact words_all r _ y h
theorem words_len : ∀ (xs ws : List V), (xs.foldl addW ws).length ≤ ws.length + xs.length
  | [], _ => Nat.le_refl _
  | x :: r, ws => by
    have h1 := words_len r (addW ws x)
    have h2 : (addW ws x).length ≤ ws.length + 1 := by
      cases h : ws.any (isW x) with
      | true => rw [addW_yes h]; omega
      | false => rw [addW_no h, List.length_append]; exact Nat.le_refl _
    rw [List.foldl_cons, List.length_cons]
    omega
theorem words_sub : ∀ (xs ws : List V) (y : V), y ∈ xs.foldl addW ws → y ∈ ws ∨ y ∈ xs
  | [], _, _, h => .inl h
  | x :: r, ws, y, h => by
    rcases words_sub r (addW ws x) y h with h | h
    · cases h2 : ws.any (isW x) with
      | true => rw [addW_yes h2] at h; exact .inl h
      | false =>
        rw [addW_no h2] at h
        rcases List.mem_append.mp h with h | h
        · exact .inl h
        · rw [List.mem_singleton.mp h]; exact .inr List.mem_cons_self
    · exact .inr (List.mem_cons_of_mem _ h)
theorem place_lt {ws : List V} {x : V} (h : ws.any (isW x) = true) : placeOf ws x < ws.length := by
  unfold placeOf
  rw [List.findIdx_lt_length]
  obtain ⟨w, hw, h2⟩ := List.any_eq_true.mp h
  exact ⟨w, hw, h2⟩
def dictWidth (ws : List V) : Nat := if ws = [] then 0 else Builtin.Int.intBits ((ws.length : Int) - 1)
def dictBits (xs : List V) : Int := packN (dictWidth (wordsOf xs)) (xs.map fun x => ((placeOf (wordsOf xs) x : Nat) : Int))
def dictD (xs : List V) : PyData := .tuple [.str "dictionary", .tuple ((wordsOf xs).map vD), .int xs.length, .int (dictWidth (wordsOf xs)), .int (dictBits xs)]
theorem dict_w {ws : List V} (h : ws.length ≤ 40) : dictWidth ws ≤ 60 := by
  unfold dictWidth
  split
  · omega
  · refine intBits_le_iff.mpr ?_
    have e : (2 : Nat) ^ 60 = 1152921504606846976 := by decide
    rw [e]
    omega
theorem dict_in {ws : List V} {x : V} (h : ws.any (isW x) = true) : ((placeOf ws x : Nat) : Int) < 2 ^ dictWidth ws := by
  have h1 := place_lt h
  have h0 : ws ≠ [] := fun z => by rw [z] at h1; exact absurd h1 (Nat.not_lt_zero _)
  unfold dictWidth
  rw [if_neg h0]
  have h2 : ((ws.length : Int) - 1).natAbs < 2 ^ Builtin.Int.intBits ((ws.length : Int) - 1) := intBits_le_iff.mp (Nat.le_refl _)
  have h3 := Int.ofNat_lt.mpr h2
  rw [PySem.W.kbt_cast] at h3
  omega
section
variable {K : PySem.W.Frag} {σ : L2.St} {H : Hp} {ta tb te tl : TE} {v : V} {D : Ends} {tz : TS} {d : Addr} {kvs : List (List L2.Key × V)}
theorem el_lcR2 {tr : TA} {j : Nat} {vs : List Nat} {lo n : Int} (f : Nat → V) (h : EvA tr σ H [.int lo, .int n]) (hb : 0 ≤ lo ∧ lo ≤ n ∧ n ≤ 40000) (hw : ∀ x, wipe ((wipe σ vs).set j (some x)) vs = wipe σ vs)
    (he : ∀ (i : Nat) H1, Ex H H1 → lo + (i : Int) < n → Ev te ((wipe σ vs).set j (some (.int (lo + (i : Int))))) H1 (f i)) : EvL (tLc (iRng2 tr) (gName j) tYes te vs) σ H ((List.range (n - lo).toNat).map f) := fun H0 e Q q => h H0 e _ fun H1 e1 =>
  ⟨lo, n, rfl, ⟨by omega, by omega, by omega, by omega⟩, fun D hD =>
    lc_range (lo := lo) (n := (n - lo).toNat) (fun i H' => H1 D = none ∧ Ex H1 H' ∧ H' D = some (.lst ((List.range i).map f))) ⟨hD, Ex.new hD, upd_same⟩
      (fun i H' hi p => by
        obtain ⟨p1, p2, p3⟩ := p
        refine ⟨hw _, ?_⟩
        show te ((wipe σ vs).set j (some (.int (lo + (i : Int))))) H' fun y H4 => ∃ acc, H4 D = some (.lst acc) ∧ acc.length < sizeLine ∧ _
        refine he i H1 (e.trans e1) (by omega) H' p2 _ fun H4 e4 => ⟨_, e4 _ _ p3, sz_lt ?_, p1, Ex.mut (p2.trans e4) p1, ?_⟩
        · rw [List.length_map, List.length_range]; omega
        · rw [List.range_succ, List.map_append]
          exact upd_same)
      (fun H' p => q D H' (fresh_back e1 p.1) (e1.trans p.2.1) p.2.2)⟩
theorem ev_dnotinT {x : V} {b : Addr} (hx : Ok x) (ha : Ev ta σ H (.ref b)) (hb : H b = some (.tup (rkL x))) (hd : Ev tl σ H (.ref d)) (h : H d = some (.dT kvs)) : Ev (tDNotIn ta tl) σ H (.bl (!(valV kvs (keyR x)).isSome)) := fun H1 e Q q =>
  ha H1 e _ fun H2 e2 => hd H2 (e.trans e2) _ fun H3 e3 => ⟨d, _, rfl, .t (((e.trans e2).trans e3) _ _ h) (by rw [← keyR_eq hx]; exact ((e.trans e2).trans e3) _ _ hb), q H3 (e2.trans e3)⟩
theorem q_dputT {x : V} {b : Addr} (hx : Ok x) (hv : Ev te σ H v) (hd : Ev tl σ H (.ref d)) (ha : Ev ta σ H (.ref b)) (hb : H b = some (.tup (rkL x))) (h : H d = some (.dT kvs)) (hz : kvs.length < 100000) (k : ∀ H1, Ex H H1 → tz D σ (upd H1 d (.dT (putK kvs (keyR x) v)))) : tSeq (sDPut tl ta te) tz D σ H :=
  hv H (Ex.refl H) _ fun H1 e1 => hd H1 e1 _ fun H2 e2 => ha H2 (e1.trans e2) _ fun H3 e3 => ⟨d, _, rfl, .t (((e1.trans e2).trans e3) _ _ h) (by rw [← keyR_eq hx]; exact ((e1.trans e2).trans e3) _ _ hb) (sz_lt hz), k H3 ((e1.trans e2).trans e3)⟩
theorem ev_dgetT {x : V} (hx : Ok x) (hd : Ev tl σ H (.ref d)) (ha : EvU ta σ H (rkL x)) (h : H d = some (.dT kvs)) (hv : valV kvs (keyR x) = some v) : Ev (tDGet tl ta) σ H v := fun H1 e Q q =>
  hd H1 e _ fun H2 e2 => ha H2 (e.trans e2) _ fun b H3 hb e3 h3 => ⟨d, v, rfl, by
    rw [← hv]
    exact .t (((e.trans e2).trans e3) _ _ h) (by rw [← keyR_eq hx]; exact h3), q H3 (e2.trans e3)⟩
theorem q_dnewT {i : Nat} (k : ∀ p, H p = none → tz D (σ.set i (some (.ref p))) (upd H p (.dT []))) : tSeq (tAsg tDNewT (gName i)) tz D σ H := fun p hp => k p hp
theorem ev_callL1 {sp : Sp} {dvs vs xs : List V} {E : XK} {tr : TA} {tc : TE} (h : EvL tc σ H xs) (hr : ∀ H1, Ex H H1 → EvA tr σ H1 vs) (hs : ∀ p H1, Ex H H1 → H1 p = some (.lst xs) → SpV sp (.ref p :: vs ++ dvs) H1 v) : Ev (tCall sp dvs E (tCons tc tr)) σ H v := fun H1 e Q q =>
  h H1 e _ fun p H2 hp e2 h2 => hr H2 (e.trans e2) H2 (Ex.refl H2) _ fun H3 e3 => hs p H3 ((e.trans e2).trans e3) (e3 _ _ h2) H3 (Ex.refl H3) Q (fun H4 e4 => q H4 ((e2.trans e3).trans e4)) E
theorem atI_ints {ns : List Int} {j : Nat} {i : Int} (e : i = (j : Int)) (h : j < ns.length) : atI (ns.map V.int) i = some (.int (ns.getD j 0)) := by
  rw [e]
  refine atI_nat ?_
  rw [List.getElem?_map, List.getD_eq_getElem?_getD, List.getElem?_eq_getElem h]
  rfl
end
theorem getD_in {ns : List Int} (h : ∀ n ∈ ns, -1000000000000000 ≤ n ∧ n ≤ 1000000000000000) (j : Nat) : -1000000000000000 ≤ ns.getD j 0 ∧ ns.getD j 0 ≤ 1000000000000000 := by
  rw [List.getD_eq_getElem?_getD]
  cases e : ns[j]? with
  | none => exact ⟨by decide, by decide⟩
  | some n => exact h n (List.mem_of_getElem? e)
theorem steps_in {ns : List Int} (h : ∀ n ∈ ns, -1000000000000000 ≤ n ∧ n ≤ 1000000000000000) : ∀ n ∈ stepsOf ns, -2000000000000000 ≤ n ∧ n ≤ 2000000000000000 := by
  intro n hn
  obtain ⟨k, _, rfl⟩ := List.mem_map.mp hn
  have h1 := getD_in h (k + 1)
  have h2 := getD_in h k
  omega
def sp__deltas (K : PySem.W.Frag) : Sp := spB deltasD K
def sp__dictionary (K : PySem.W.Frag) : Sp := spB dictD K
section
variable {P : Program} {w : World} {K : PySem.W.Frag} {mg : Str → Option Value} {base : Heap}
theorem ok__deltas (D : Dn K mg "_deltas" s__deltas ["present"]) (c__are_integers : C8.Cal P w K mg base 2 "_are_integers" (sp__are_integers K) []) (c__packed_above : C8.Cal P w K mg base 2 "_packed_above" (sp__packed_above K) []) (z_len : mg "len" = none) (z_min : mg "min" = none) (z_range : mg "range" = none) :
    C8.Cal P w K mg base 3 "_deltas" (sp__deltas K) [] := by
  refine cal_of D sc__deltas (fun vs H Q E h => ?_) (fun f cdv A outer s H vs Q E hr h => ?_)
  · obtain ⟨_, _, rfl, _⟩ := h
    rfl
  refine ⟨_, (pss_cons (ps_if (PW.pt (pw_or (pt_not (pt_truth (pv 0) (by intro _; rfl))) (pw_or1 (pt_not (pt_val (C8.pe_c c__are_integers hr (by decide) (by rfl) (pa_cons (pv 0) pa_nil)))))))
      (pss_one (ps_ret pe_non))
      pss_nil)
    (pss_cons (ps_setLc (i := 1) (own := [("at", 5)]) (g := gName 5) (tt := tYes) rfl sc__deltas.nd rfl rfl (sw_true rfl rfl rfl (by decide +kernel)) (pi_range2 rfl z_range (pa_cons pe_int (pa_cons (pe_callB call_len_seq (by rfl) z_len PySem.boot_len (pa_cons (pv 0) pa_nil)) pa_nil))) (blkOk_by (N := n__deltas) (sc := C8.fnScope s__deltas) (by decide +kernel)) (fun _ _ _ _ _ => pg_name (i := 5) sc__deltas.nd rfl (Or.inl rfl)) (fun _ _ _ _ _ => pts_nil) (fun _ _ _ _ _ => (pe_op op_sub (pe_ix (ix_listK (K := K) rfl) (pv 0) (pv 5) (fun _ _ => rfl)) (pe_ix (ix_listK (K := K) rfl) (pv 0) (pe_op op_sub (pv 5) pe_int) (fun _ _ => rfl)))))
    (pss_cons (ps_set (i := 2) sc__deltas.nd rfl (.inl rfl) (pe_callBK (cr_minDef rfl (hu64 hr)) (by rfl) z_min (by decide +kernel) (pa_cons (pv 1) pa_nil) (pk_cons pe_int pk_nil)))
    (pss_cons (ps_asg (C8.pe_c c__packed_above hr (by decide) (by rfl) (pa_cons (pv 2) (pa_cons (pv 1) pa_nil))) (pg_tup rfl (pgs_cons (pg_name (i := 3) sc__deltas.nd rfl (.inl rfl)) (pgs_cons (pg_name (i := 4) sc__deltas.nd rfl (.inl rfl)) pgs_nil))))
    (pss_one (ps_ret (pe_tup (pa_cons pe_str (pa_cons (pe_ix ix_list (pv 0) pe_int (fun _ _ => rfl)) (pa_cons (pv 2) (pa_cons (pe_callB call_len_seq (by rfl) z_len PySem.boot_len (pa_cons (pv 0) pa_nil)) (pa_cons (pv 3) (pa_cons (pv 4) pa_nil))))))))))))), ?_⟩
  obtain ⟨a, xs, rfl, hS, hx, q⟩ := h
  have hz := hx.2
  unfold deltasD at q
  refine q_when (b := !(!xs.isEmpty) || !allInt xs) (et_or (et_not (et_list (ev_var rfl) hS)) fun _ => et_not (et_B (ev_call (ea_cons (ev_var rfl) ea_nil) fun H1 e Q q E => ⟨a, xs, rfl, ex_l e hS, hx, q⟩))) (fun hb H1 e1 => s_retD (K := K) (d := .none) (ed_val ev_c .non) fun v H2 e2 hd => q v H2 (e1.trans e2) (by rw [if_pos (by rw [← hb, Bool.not_not])]; exact hd)) fun hb H1 e1 => ?_
  have hc : (xs.isEmpty || !allInt xs) = false := by rw [← hb, Bool.not_not]
  rw [if_neg (by rw [hc]; decide)] at q
  rw [Bool.or_eq_false_iff] at hc
  have hxs := ints_eq (xs := xs) (by cases h : allInt xs with
    | true => rfl
    | false => rw [h] at hc; exact nomatch hc.2)
  have hr := ints_in hx
  have hln : (xs.map zOf).length = xs.length := List.length_map ..
  have hne : 0 < xs.length := by
    cases xs with
    | nil => exact nomatch hc.1
    | cons x r => exact Nat.succ_pos _
  generalize xs.map zOf = ns at *
  subst hxs
  rw [List.length_map] at hne hz
  have hL := low_min (ns := stepsOf ns) (steps_in hr)
  have hsl : (stepsOf ns).length = ns.length - 1 := by unfold stepsOf; rw [List.length_map, List.length_range]
  refine q_asgL (xs := (stepsOf ns).map V.int) ?_ fun p H2 hp e2 h2 => ?_
  · have e : (stepsOf ns).map V.int = (List.range (((ns.map V.int).length : Int) - 1).toNat).map fun k => V.int (ns.getD (k + 1) 0 - ns.getD k 0) := by
      unfold stepsOf
      rw [List.map_map, List.length_map, show ((ns.length : Int) - 1).toNat = ns.length - 1 by omega]
      rfl
    rw [e]
    refine el_lcR2 (lo := 1) _ (ea_cons ev_c (ea_cons (ev_len (ev_var rfl) (ex_l e1 hS)) ea_nil)) ⟨by omega, by rw [List.length_map]; omega, by rw [List.length_map]; omega⟩ (fun _ => rfl) fun k H3 e3 hk => ?_
    rw [List.length_map] at hk
    exact ev_op (ev_op (ev_var rfl) (ev_var rfl) (rv_ixL (ex_l (e1.trans e3) hS) (atI_ints (j := k + 1) (by omega) (by omega)))) (ev_op (ev_var rfl) (ev_op (ev_var rfl) ev_c rv_I0) (rv_ixL (ex_l (e1.trans e3) hS) (atI_ints (j := k) (by omega) (by omega)))) rv_I0
  refine q_asg (v := .int (foldD min 0 (stepsOf ns))) (ev_foldD (f := min) (ev_var rfl) ev_c (sq_of h2)) fun H3 e3 => ?_
  refine q_asgG (eu_call (ea_cons (ev_var rfl) (ea_cons (ev_var rfl) ea_nil)) fun H4 e4 Q q E => ⟨_, p, stepsOf ns, rfl, ex_l (e3.trans e4) (sq_of h2), by omega, hL, q⟩) fun p2 H4 hp2 e4 h4 => gt2 (st_of h4) ?_
  have hS4 := ex_l (((e1.trans e2).trans e3).trans e4) hS
  have h0 : vD ((ns.map V.int).headD .non) = .int (ns.getD 0 0) := by
    cases ns with
    | nil => exact absurd hne (Nat.lt_irrefl 0)
    | cons n r => rfl
  rw [h0] at q
  exact s_retD (K := K) (ed_tupU (ud_tup (ad_cons (ed_val ev_c (.str _)) (ad_cons (ed_val (ev_op (ev_var rfl) ev_c (rv_ixL hS4 (atI_ints (j := 0) rfl hne))) (.int _)) (ad_cons (ed_val (ev_var rfl) (.int _)) (ad_cons (ed_val (ev_len (ev_var rfl) hS4) (.int _)) (ad_cons (ed_val (ev_var rfl) (.int _)) (ad_cons (ed_val (ev_var rfl) (.int _)) ad_nil)))))) (by show 6 ≤ 100000; decide))) fun v H5 e5 hd => q v H5 ((((e1.trans e2).trans e3).trans e4).trans e5) hd
theorem ok__dictionary (D : Dn K mg "_dictionary" s__dictionary ["present"]) (c_pack : C8.Cal P w K mg base 1 "pack" (sp_pack K) []) (c_rank : C8.Cal P w K mg base 2 "rank" (sp_rank K) []) (c_width_for : C8.Cal P w K mg base 1 "width_for" (sp_width_for K) []) (z_len : mg "len" = none) (z_tuple : mg "tuple" = none) :
    C8.Cal P w K mg base 3 "_dictionary" (sp__dictionary K) [] := by
  refine cal_of D sc__dictionary (fun vs H Q E h => ?_) (fun f cdv A outer s H vs Q E hr h => ?_)
  · obtain ⟨_, _, rfl, _⟩ := h
    rfl
  refine ⟨_, (pss_cons (ps_set (i := 1) sc__dictionary.nd rfl (.inr rfl) pe_dnewT)
    (pss_cons (ps_set (i := 2) sc__dictionary.nd rfl (.inl rfl) (pe_lst pa_nil))
    (pss_cons (ps_for PassesOwn.never rfl (pi_list (pv 0)) (pg_name (i := 3) sc__dictionary.nd rfl (.inl rfl))
      (pss_cons (ps_set (i := 4) sc__dictionary.nd rfl (.inl rfl) (C8.pe_c c_rank hr (by decide) (by rfl) (pa_cons (pv 3) pa_nil)))
    (pss_one (ps_if (pt_cmp (pc_dnotin (hu_of hr) (pv 4) (pv 1)))
      (pss_cons (ps_dput (hu_of hr) (pv 1) (pv 4) (pe_callB call_len_seq (by rfl) z_len PySem.boot_len (pa_cons (pv 2) pa_nil)) rfl)
    (pss_one (ps_expr (pe_bm PySem.F.plainAttrs_list PySem.F.slot_list_append PySem.F.type_list_append mt_append (pv 2) (pa_cons (pv 3) pa_nil)))))
      pss_nil))))
    (pss_cons (ps_set (i := 5) sc__dictionary.nd rfl (.inl rfl) (pe_ifExp (pt_truth (pv 2) (by intro _; rfl)) (C8.pe_c c_width_for hr (by decide) (by rfl) (pa_cons (pe_op op_sub (pe_callB call_len_seq (by rfl) z_len PySem.boot_len (pa_cons (pv 2) pa_nil)) pe_int) pa_nil)) pe_int))
    (pss_cons (ps_set (i := 6) sc__dictionary.nd rfl (.inl rfl) (C8.pe_c c_pack hr (by decide) (by rfl) (pa_cons (pe_lc (own := [("value", 3)]) (g := gName 3) (tt := tYes) rfl sc__dictionary.nd (pi_list (pv 0)) (blkOk_by (N := n__dictionary) (sc := C8.fnScope s__dictionary) (by decide +kernel)) (fun _ _ _ _ _ => pg_name (i := 3) sc__dictionary.nd rfl (Or.inl rfl)) (fun _ _ _ _ _ => pts_nil) (fun _ _ _ _ _ => (pe_dget (hu_of hr) (pv 1) (C8.pe_c c_rank hr (by decide) (by rfl) (pa_cons (pv 3) pa_nil)) (fun _ _ => rfl)))) (pa_cons (pv 5) pa_nil))))
    (pss_one (ps_ret (pe_tup (pa_cons pe_str (pa_cons (pe_callTy call_tuple_of (by rfl) z_tuple (by decide +kernel) (pa_cons (pv 2) pa_nil)) (pa_cons (pe_callB call_len_seq (by rfl) z_len PySem.boot_len (pa_cons (pv 0) pa_nil)) (pa_cons (pv 5) (pa_cons (pv 6) pa_nil))))))))))))), ?_⟩
  obtain ⟨a, xs, rfl, hS, hx, q⟩ := h
  have hz := hx.2
  refine q_dnewT fun d hd => ?_
  have e0 : Ex H (upd H d (.dT [])) := Ex.new hd
  refine q_asgL (el_lst ea_nil (by decide)) fun p H1 hp e1 h1 => ?_
  have hd1 : H1 d = some (.dT []) := e1 _ _ upd_same
  have hpd : p ≠ d := fun z => by rw [z, upd_same] at hp; cases hp
  have hpH : H p = none := fresh_back e0 hp
  refine q_forLn (ev_var rfl) (ex_l (e0.trans e1) hS) (fun i σ' H' => ∃ v3 v4, σ' = [some (.ref a), some (.ref d), some (.ref p), v3, v4, none, none] ∧ Ex H H' ∧ H' d = some (.dT (tabN 0 (wordsOf (xs.take i)))) ∧ H' p = some (.lst (wordsOf (xs.take i)))) (fun H2 e2 => ⟨none, none, rfl, (e0.trans e1).trans e2, e2 _ _ hd1, e2 _ _ h1⟩) (fun i σ' H' _ pv => ?_) (fun i x σ' H' hxi pv => ?_) fun σ' H' pv => ?_
  · obtain ⟨v3, v4, rfl, e, _⟩ := pv
    exact ex_l e hS
  · obtain ⟨v3, v4, rfl, e, hD, hW⟩ := pv
    have hPx := hx.1 x (List.mem_of_getElem? hxi)
    have hlen := words_len (xs.take i) []
    have hi40 : (xs.take i).length ≤ 40 := by rw [List.length_take]; omega
    have hn : wordsOf (xs.take (i + 1)) = addW (wordsOf (xs.take i)) x := foldl_take hxi
    rw [hn]
    have hl40 : (wordsOf (xs.take i)).length ≤ 40 := Nat.le_trans hlen (by rw [List.length_nil]; omega)
    generalize wordsOf (xs.take i) = ws at *
    refine q_asgU (ec_rank (ev_var rfl) hPx.1.ok) fun b H2 hb e2 h2 => ?_
    have hval := tab_val ws 0 x
    refine s_when (et_B (ev_dnotinT hPx.1.ok (ev_var rfl) h2 (ev_var rfl) (e2 _ _ hD))) (fun hc H3 e3 => ?_) fun hc H3 e3 => ?_
    · have hno : ws.any (isW x) = false := by
        cases h : ws.any (isW x) with
        | false => rfl
        | true => rw [hval, if_pos h] at hc; exact nomatch hc
      have hv0 : valV (tabN 0 ws) (keyR x) = none := by rw [hval, if_neg (by rw [hno]; decide)]
      refine q_dputT hPx.1.ok (v := .int (ws.length : Int)) (ev_len (ev_var rfl) (sq_of (e3 _ _ (e2 _ _ hW)))) (ev_var rfl) (ev_var rfl) (e3 _ _ h2) (e3 _ _ (e2 _ _ hD)) (by rw [tab_len]; omega) fun H4 e4 => ?_
      have hW4 : upd H4 d (.dT (putK (tabN 0 ws) (keyR x) (.int (ws.length : Int)))) p = some (.lst ws) := by
        rw [upd_ne hpd]
        exact e4 _ _ (e3 _ _ (e2 _ _ hW))
      have eD : Ex H (upd H4 d (.dT (putK (tabN 0 ws) (keyR x) (.int (ws.length : Int))))) := Ex.mut (((e.trans e2).trans e3).trans e4) hd
      refine s_app hW4 (ev_var rfl) (ev_var rfl) (by omega) fun H5 e5 => ⟨_, _, rfl, Ex.mut (eD.trans e5) hpH, ?_, ?_⟩
      · rw [upd_ne (Ne.symm hpd), addW_no hno, tab_snoc, Nat.zero_add, ← putK_new _ hv0]
        exact e5 _ _ upd_same
      · rw [addW_no hno]
        exact upd_same
    · have hyes : ws.any (isW x) = true := by
        cases h : ws.any (isW x) with
        | true => rfl
        | false => rw [hval, if_neg (by rw [h]; decide)] at hc; exact nomatch hc
      rw [addW_yes hyes]
      exact ⟨_, _, rfl, (e.trans e2).trans e3, e3 _ _ (e2 _ _ hD), e3 _ _ (e2 _ _ hW)⟩
  · obtain ⟨v3, v4, rfl, e, hD, hW⟩ := pv
    rw [List.take_length] at hD hW
    have hlen := words_len xs []
    have hl40 : (wordsOf xs).length ≤ 40 := Nat.le_trans hlen (by rw [List.length_nil]; omega)
    have hall := words_all xs []
    have hsub := words_sub xs []
    unfold dictD dictBits at q
    change ∀ y, y ∈ xs → (wordsOf xs).any (isW y) = true at hall
    change ∀ y, y ∈ wordsOf xs → _ at hsub
    generalize wordsOf xs = ws at *
    have hpl : ∀ x ∈ ws, Pl x := fun x h => by
      rcases hsub x h with h | h
      · cases h
      · exact hx.pl h
    refine q_asg (v := .int (dictWidth ws : Nat)) (ev_if (b := !ws.isEmpty) (et_list (ev_var rfl) (sq_of hW)) (fun hb => ?_) fun hb => ?_) fun H2 e2 => ?_
    · have h0 : ws ≠ [] := fun z => by rw [z] at hb; exact nomatch hb
      refine ev_call (ea_cons (ev_op (ev_len (ev_var rfl) (sq_of hW)) ev_c rv_I0) ea_nil) fun H3 e3 Q q E => ⟨_, rfl, ?_⟩
      unfold dictWidth at q
      rw [if_neg h0] at q
      exact q
    · have h0 : ws = [] := by
        cases ws with
        | nil => rfl
        | cons x r => exact nomatch hb
      subst h0
      exact ev_c
    refine q_asg (v := .int (packN (dictWidth ws) (xs.map fun x => ((placeOf ws x : Nat) : Int)))) (ev_callL1 (xs := (xs.map fun x => ((placeOf ws x : Nat) : Int)).map V.int) ?_ (fun H3 e3 => ea_cons (ev_var rfl) ea_nil) fun p2 H3 e3 h3 H4 e4 Q q E => ⟨p2, dictWidth ws, _, rfl, ex_l e4 (sq_of h3), ?_, by have := dict_w hl40; omega, by rw [List.length_map]; omega, q⟩) fun H3 e3 => ?_
    · rw [List.map_map]
      refine el_mapL (k := fun x => x) (ev_var rfl) (by rw [List.map_id']; exact ex_l (e.trans e2) hS) (by omega) (fun _ => rfl) fun x H3 e3 hm => ?_
      have hPx := hx.1 x hm
      refine ev_dgetT hPx.1.ok (ev_var rfl) (ec_rank (ev_var rfl) hPx.1.ok) (e3 _ _ (e2 _ _ hD)) ?_
      rw [tab_val, if_pos (hall x hm), Nat.zero_add]
      rfl
    · intro n hn
      obtain ⟨x, hm, rfl⟩ := List.mem_map.mp hn
      exact ⟨by omega, dict_in (hall x hm)⟩
    have hS3 := ex_l ((e.trans e2).trans e3) hS
    exact s_retD (K := K) (ed_tupU (ud_tup (ad_cons (ed_val ev_c (.str _)) (ad_cons (ed_tupU (ud_tupleL (ev_var rfl) (sq_of (e3 _ _ (e2 _ _ hW))) (dps_vD hpl))) (ad_cons (ed_val (ev_len (ev_var rfl) hS3) (.int _)) (ad_cons (ed_val (ev_var rfl) (.int _)) (ad_cons (ed_val (ev_var rfl) (.int _)) ad_nil))))) (by show 5 ≤ 100000; decide))) fun v H4 e4 hd => q v H4 (((e.trans e2).trans e3).trans e4) hd
end

/-! ### values of bodies -/
theorem et_eqS {σ : L2.St} {H : Hp} {ta tb : TE} {a b : Str} {r : Bool} (ha : Ev ta σ H (.str a)) (hb : Ev tb σ H (.str b)) (h : decide (V.str a = V.str b) = r) : EvT (tTest (tOp rEq ta tb)) σ H r :=
  et_test (ev_is (ev_op ha hb (rv_eq rfl)) (by rw [h]))
inductive FormD : Str → (List V → PyData) → Prop where
  | plain : FormD "plain" plainD
  | constant : FormD "constant" constD
  | runs : FormD "runs" runsD
  | dictionary : FormD "dictionary" dictD
  | packed : FormD "packed" packedD
  | deltas : FormD "deltas" deltasD
section
variable {K : PySem.W.Frag} {H : Hp}
theorem dps_plain : ∀ {xs ys : List V}, DpAll K H ys (xs.map vD) → (∀ x ∈ xs, Pl x) → ys = xs
  | [], _, h, _ => by cases h; rfl
  | x :: r, _, h, hp => by
    cases h with
    | cons h1 h2 => rw [dp_plain h1 (hp x List.mem_cons_self), dps_plain h2 fun y hy => hp y (List.mem_cons_of_mem _ hy)]
theorem dp_tupD {v : V} {ds : List PyData} (h : Dp K H v (.tuple ds)) : ∃ b ys, v = .ref b ∧ SqT K H b ys ∧ DpAll K H ys ds := by
  cases h with
  | tup hS hd => exact ⟨_, _, rfl, hS, hd⟩
theorem dp_strD {v : V} {s : Str} (h : Dp K H v (.str s)) : v = .str s := by cases h; rfl
theorem dp_intD {v : V} {n : Int} (h : Dp K H v (.int n)) : v = .int n := by cases h; rfl
end
section
variable {K : PySem.W.Frag} {σ : L2.St} {H : Hp} {ta tb te tl : TE} {D : Ends} {tz : TS} {a b c d e f : V}
theorem gt5 {p : Addr} {i j k l m : Nat} (h : SqT K H p [a, b, c, d, e]) {Q : L2.St → Hp → Prop} (q : Q (((((σ.set i (some a)).set j (some b)).set k (some c)).set l (some d)).set m (some e)) H) : gTup K 5 (gCons (gName i) (gCons (gName j) (gCons (gName k) (gCons (gName l) (gCons (gName m) gNil))))) (.ref p) σ H Q :=
  ⟨p, [a, b, c, d, e], rfl, h, rfl, a, [b, c, d, e], rfl, b, [c, d, e], rfl, c, [d, e], rfl, d, [e], rfl, e, [], rfl, rfl, q⟩
theorem gt6 {p : Addr} {i j k l m n : Nat} (h : SqT K H p [a, b, c, d, e, f]) {Q : L2.St → Hp → Prop} (q : Q ((((((σ.set i (some a)).set j (some b)).set k (some c)).set l (some d)).set m (some e)).set n (some f)) H) : gTup K 6 (gCons (gName i) (gCons (gName j) (gCons (gName k) (gCons (gName l) (gCons (gName m) (gCons (gName n) gNil)))))) (.ref p) σ H Q :=
  ⟨p, [a, b, c, d, e, f], rfl, h, rfl, a, [b, c, d, e, f], rfl, b, [c, d, e, f], rfl, c, [d, e, f], rfl, d, [e, f], rfl, e, [f], rfl, f, [], rfl, rfl, q⟩
/-- list(a tuple) -/
theorem el_listT {p : Addr} {xs : List V} (ha : Ev ta σ H (.ref p)) (h : SqT K H p xs) : EvL (tCB (rListS K) (tCons ta tNil)) σ H xs := fun H1 e Q q =>
  ha H1 e _ fun H2 e2 => ⟨p, xs, rfl, Or.inr (ex_t (e.trans e2) h), fun l hl => q l _ (fresh_back e2 hl) (e2.trans (Ex.new hl)) upd_same⟩
/-- a new list by a number -/
theorem el_rep {xs : List V} {n : Nat} (ha : EvL ta σ H xs) (hb : ∀ H1, Ex H H1 → Ev tb σ H1 (.int (n : Int))) (hn : n ≤ 1000) (hx : xs.length ≤ 10) : EvL (tOp rRep ta tb) σ H (List.replicate n xs).flatten := fun H1 e Q q =>
  ha H1 e _ fun p H2 hp e2 h2 => hb H2 (e.trans e2) H2 (Ex.refl _) _ fun H3 e3 => ⟨p, (n : Int), xs, rfl, rfl, e3 _ _ h2, by omega, by omega, by
    rw [Int.toNat_natCast]
    have : xs.length * n ≤ 10 * 1000 := Nat.mul_le_mul hx hn
    exact sz_of (by omega), fun l hl => by
    rw [Int.toNat_natCast]
    exact q l _ (fresh_back (e2.trans e3) hl) ((e2.trans e3).trans (Ex.new hl)) upd_same⟩
/-- xs.extend(a new list) -/
theorem s_ext {l : Addr} {xs ys : List V} (hl : H l = some (.lst xs)) (ha : Ev ta σ H (.ref l)) (h : EvL te σ H ys) (hz : xs.length + ys.length ≤ 100000) (k : ∀ H1, Ex H H1 → D.nx σ (upd H1 l (.lst (xs ++ ys)))) :
    tDrop (tBM K "list" rExtend ta (tCons te tNil)) D σ H := ha H (Ex.refl H) _ fun H1 e1 =>
  ⟨Or.inl ⟨rfl, xs, sq_of (e1 l _ hl)⟩, h H1 e1 _ fun p H2 hp e2 h2 => ⟨l, p, xs, ys, rfl, rfl, e2 l _ (e1 l _ hl), h2, sz_of hz, k H2 (e1.trans e2)⟩⟩
/-- [g(x) for x in a new list] -/
theorem el_mapNL {α : Type} {xs : List α} {k g : α → V} {j : Nat} {vs : List Nat} (h : EvL tl σ H (xs.map k)) (hz : xs.length ≤ 40000) (hw : ∀ x, wipe ((wipe σ vs).set j (some x)) vs = wipe σ vs)
    (he : ∀ (x : α) H1, Ex H H1 → x ∈ xs → Ev te ((wipe σ vs).set j (some (k x))) H1 (g x)) : EvL (tLc (iList K tl) (gName j) tYes te vs) σ H (xs.map g) := by
  have e : xs.map g = given (xs.map k).length (fun _ => true) (fun i => (xs[i]?.map g).getD .non) := by
    rw [given_all, List.length_map]
    apply List.ext_getElem?
    intro i
    rw [List.getElem?_map, List.getElem?_map]
    by_cases h : i < xs.length
    · rw [List.getElem?_range h, List.getElem?_eq_getElem h]
      show some _ = some ((xs[i]?.map g).getD .non)
      rw [List.getElem?_eq_getElem h]
      rfl
    · rw [List.getElem?_eq_none (by omega), List.getElem?_eq_none (by rw [List.length_range]; omega)]
      rfl
  rw [e]
  refine el_lcNL (fun _ => true) _ h (by rw [List.length_map]; exact hz) hw (fun i x H1 e1 hi H4 e4 Q k => k H4 (Ex.refl H4)) fun i x H1 e1 hi _ => ?_
  rw [List.getElem?_map] at hi
  obtain ⟨y, hy, rfl⟩ := Option.map_eq_some_iff.mp hi
  rw [hy]
  exact he y H1 e1 (List.mem_of_getElem? hy)
end
/-! the mathematics -/
theorem same_eq {x y : V} (hx : Ok x) (hy : Ok y) (h : sameB x y = true) : x = y := by
  unfold sameB at h
  have two : ∀ {a b : Int} {p q : PyData}, PyData.eqv (.tuple [.int a, p]) (.tuple [.int b, q]) = true → a = b ∧ PyData.eqv p q = true := fun {a b p q} h => by
    have h' : ((a == b) && (PyData.eqv p q && true)) = true := h
    rw [Bool.and_eq_true, Bool.and_true, beq_iff_eq] at h'
    exact h'
  cases hx with
  | non => cases hy with
    | non => rfl
    | bl b => exact absurd (two h).1 (by simp [kr])
    | int i => exact absurd (two h).1 (by simp [kr])
    | str s hs => exact absurd (two h).1 (by simp [kr])
  | bl b => cases hy with
    | non => exact absurd (two h).1 (by simp [kr])
    | bl c =>
      have := (two h).2
      have e : ((if b then (1 : Int) else 0) == (if c then 1 else 0)) = true := this
      cases b <;> cases c <;> first | rfl | exact absurd e (by decide)
    | int i => exact absurd (two h).1 (by simp [kr])
    | str s hs => exact absurd (two h).1 (by simp [kr])
  | int i => cases hy with
    | non => exact absurd (two h).1 (by simp [kr])
    | bl b => exact absurd (two h).1 (by simp [kr])
    | int j =>
      have e : (i == j) = true := (two h).2
      rw [beq_iff_eq.mp e]
    | str s hs => exact absurd (two h).1 (by simp [kr])
  | str s hs => cases hy with
    | non => exact absurd (two h).1 (by simp [kr])
    | bl b => exact absurd (two h).1 (by simp [kr])
    | int i => exact absurd (two h).1 (by simp [kr])
    | str t ht =>
      have e : (s == t) = true := (two h).2
      rw [beq_iff_eq.mp e]
theorem all_rep {x : V} : ∀ {xs : List V}, (∀ y ∈ xs, y = x) → xs = (List.replicate xs.length [x]).flatten
  | [], _ => rfl
  | y :: r, h => by
    rw [List.length_cons, List.replicate_succ, List.flatten_cons, ← all_rep fun z hz => h z (List.mem_cons_of_mem _ hz), h y List.mem_cons_self]
    rfl
def expand (st : List (V × Nat)) : List V := (st.map fun t => (List.replicate t.2 [t.1]).flatten).flatten
theorem flat_one (x : V) (n : Nat) : (List.replicate n [x]).flatten = List.replicate n x := by
  induction n with
  | zero => rfl
  | succ n ih => rw [List.replicate_succ, List.flatten_cons, ih]; rfl
theorem expand_snoc (st : List (V × Nat)) (t : V × Nat) : expand (st ++ [t]) = expand st ++ List.replicate t.2 t.1 := by
  unfold expand
  rw [List.map_append, List.flatten_append]
  show _ ++ ((List.replicate t.2 [t.1]).flatten ++ []) = _
  rw [List.append_nil, flat_one]
theorem expand_push {st : List (V × Nat)} {x : V} (h : ∀ t ∈ st, PV t.1) (hx : PV x) : expand (push st x) = expand st ++ [x] := by
  rcases List.eq_nil_or_concat st with e | ⟨i, t, e⟩
  · subst e; rfl
  · rw [List.concat_eq_append] at e
    subst e
    obtain ⟨y, c⟩ := t
    rw [push_some]
    have hy := h (y, c) (List.mem_append_right _ List.mem_cons_self)
    split
    · rename_i hs
      have exy := same_eq hy.1.ok hx.1.ok hs
      subst exy
      rw [expand_snoc, expand_snoc, List.append_assoc]
      congr 1
      show List.replicate (c + 1) y = List.replicate c y ++ [y]
      rw [List.replicate_succ']
    · rw [expand_snoc]
      rfl
theorem expand_runs : ∀ (xs : List V) (st : List (V × Nat)), (∀ t ∈ st, PV t.1) → (∀ x ∈ xs, PV x) → expand (xs.foldl push st) = expand st ++ xs
  | [], st, _, _ => by rw [List.append_nil]; rfl
  | x :: r, st, h, hx => by
    rw [List.foldl_cons, expand_runs r _ (push_pl h (hx x List.mem_cons_self)) fun y hy => hx y (List.mem_cons_of_mem _ hy), expand_push h (hx x List.mem_cons_self), List.append_assoc]
    rfl
theorem runs_back {xs : List V} (h : PVs xs) : expand (runsOf xs) = xs := by
  unfold runsOf
  rw [expand_runs xs [] (fun t ht => by cases ht) h.1]
  rfl
theorem runs_pv : ∀ (xs : List V) (st : List (V × Nat)), (∀ t ∈ st, PV t.1) → (∀ x ∈ xs, PV x) → ∀ t ∈ xs.foldl push st, PV t.1
  | [], _, h, _ => h
  | x :: r, st, h, hx => runs_pv r _ (push_pl h (hx x List.mem_cons_self)) fun y hy => hx y (List.mem_cons_of_mem _ hy)
theorem keyR_inj {x y : V} (hx : Ok x) (hy : Ok y) (h : keyR x = keyR y) : x = y := by
  have two : ∀ {a b c d : L2.Key}, ([a, b] : List L2.Key) = [c, d] → a = c ∧ b = d := fun h => by
    have := List.cons.inj h
    exact ⟨this.1, (List.cons.inj this.2).1⟩
  obtain ⟨h1, h2⟩ := two h
  have k := Sum.inl.inj h1
  cases hx with
  | non => cases hy with
    | non => rfl
    | bl c => exact absurd k (by simp [kr])
    | int j => exact absurd k (by simp [kr])
    | str t ht => exact absurd k (by simp [kr])
  | bl b => cases hy with
    | non => exact absurd k (by simp [kr])
    | bl c =>
      have e : (if b then (1 : Int) else 0) = (if c then 1 else 0) := Sum.inl.inj h2
      cases b <;> cases c <;> first | rfl | exact absurd e (by decide)
    | int j => exact absurd k (by simp [kr])
    | str t ht => exact absurd k (by simp [kr])
  | int i => cases hy with
    | non => exact absurd k (by simp [kr])
    | bl c => exact absurd k (by simp [kr])
    | int j =>
      have e : i = j := Sum.inl.inj h2
      rw [e]
    | str t ht => exact absurd k (by simp [kr])
  | str s hs => cases hy with
    | non => exact absurd k (by simp [kr])
    | bl c => exact absurd k (by simp [kr])
    | int j => exact absurd k (by simp [kr])
    | str t ht =>
      have e : s = t := Sum.inr.inj h2
      rw [e]
theorem place_at {ws : List V} {x : V} (hw : ∀ w ∈ ws, Ok w) (hx : Ok x) (h : ws.any (isW x) = true) : ws[placeOf ws x]? = some x := by
  have hl := place_lt h
  rw [List.getElem?_eq_getElem hl]
  have h2 : isW x ws[placeOf ws x] = true := List.findIdx_getElem (w := hl)
  have e : keyR ws[placeOf ws x] = keyR x := of_decide_eq_true h2
  rw [keyR_inj (hw _ (List.getElem_mem hl)) hx e]
def lastD (l x : Int) (ns : List Int) : Int := ns.foldl (fun a n => a + l + n) x
theorem unp_all {w : Nat} {ns : List Int} (h : InW w ns) : (List.range ns.length).map (unp w (packN w ns)) = ns.map V.int := by
  apply List.ext_getElem?
  intro i
  rw [List.getElem?_map, List.getElem?_map]
  by_cases hi : i < ns.length
  · rw [List.getElem?_range hi, List.getElem?_eq_getElem hi]
    show some (unp w (packN w ns) i) = some (V.int ns[i])
    unfold unp
    rw [packN_at h (List.getElem?_eq_getElem hi)]
  · rw [List.getElem?_eq_none (by rw [List.length_range]; omega), List.getElem?_eq_none (by omega)]
    rfl
theorem delta_back {ns : List Int} {l : Int} (j : Nat) (hj : j < ns.length) : lastD l (ns.getD 0 0) (((stepsOf ns).map fun n => n - l).take j) = ns.getD j 0 := by
  induction j with
  | zero => rfl
  | succ j ih =>
    have hs : ((stepsOf ns).map fun n => n - l)[j]? = some (ns.getD (j + 1) 0 - ns.getD j 0 - l) := by
      unfold stepsOf
      rw [List.getElem?_map, List.getElem?_map, List.getElem?_range (by omega)]
      rfl
    unfold lastD at ih ⊢
    rw [foldl_take hs, ih (by omega)]
    omega
def sp__runs_values (K : PySem.W.Frag) : Sp := fun vs H Q _ => ∃ (v : V) (st : List (V × Nat)), vs = [v] ∧ Dp K H v (.tuple (st.map pairD)) ∧ (∀ t ∈ st, PV t.1) ∧ (expand st).length ≤ 100 ∧ ∀ p H', H p = none → Ex H H' → H' p = some (.lst (expand st)) → Q (.ref p) H'
def sp__deltas_values (K : PySem.W.Frag) : Sp := fun vs H Q _ => ∃ (x l : Int) (a : Addr) (ns : List Int), vs = [.int x, .int l, .ref a] ∧ H a = some (.lst (ns.map V.int)) ∧ ns.length ≤ 100 ∧ ∀ p H', H p = none → Ex H H' → H' p = some (.lst ((List.range (ns.length + 1)).map fun j => .int (lastD l x (ns.take j)))) → Q (.ref p) H'
def sp_values_of (K : PySem.W.Frag) : Sp := fun vs H Q _ => ∃ (v : V) (fm : Str) (d : List V → PyData) (xs : List V), vs = [v] ∧ FormD fm d ∧ Dp K H v (d xs) ∧ d xs ≠ .none ∧ PVs xs ∧ ∀ p H', H p = none → Ex H H' → H' p = some (.lst xs) → Q (.ref p) H'
theorem expand_le {st : List (V × Nat)} {t : V × Nat} : ∀ {i : Nat}, st[i]? = some t → (expand (st.take i)).length + t.2 ≤ (expand st).length := fun {i} h => by
  have e : st = st.take i ++ t :: st.drop (i + 1) := by
    have := List.take_append_drop i st
    have h2 := (List.getElem?_eq_some_iff.mp h)
    rw [List.drop_eq_getElem_cons h2.1, h2.2] at this
    exact this.symm
  have e2 : expand st = expand (st.take i) ++ (List.replicate t.2 t.1 ++ expand (st.drop (i + 1))) := by
    conv => lhs; rw [e]
    unfold expand
    rw [List.map_append, List.flatten_append, List.map_cons, List.flatten_cons, flat_one]
  rw [e2, List.length_append, List.length_append, List.length_replicate]
  omega
theorem dps_get {K : PySem.W.Frag} {H : Hp} : ∀ {ys : List V} {ds : List PyData} {i : Nat} {x : V}, DpAll K H ys ds → ys[i]? = some x → ∃ d, ds[i]? = some d ∧ Dp K H x d
  | _, _, _, _, .nil, h => by simp at h
  | _, _, 0, _, .cons h _, e => by
    cases e
    exact ⟨_, rfl, h⟩
  | _, _, i + 1, _, .cons _ t, e => by
    obtain ⟨d, h1, h2⟩ := dps_get (i := i) t (by simpa using e)
    exact ⟨d, by simpa using h1, h2⟩
section
variable {P : Program} {w : World} {K : PySem.W.Frag} {mg : Str → Option Value} {base : Heap}
theorem ok__runs_values (D : Dn K mg "_runs_values" s__runs_values ["pairs"]) :
    C8.Cal P w K mg base 1 "_runs_values" (sp__runs_values K) [] := by
  refine cal_of D sc__runs_values (fun vs H Q E h => ?_) (fun f cdv A outer s H vs Q E hr h => ?_)
  · obtain ⟨_, _, rfl, _⟩ := h
    rfl
  refine ⟨_, (pss_cons (ps_set (i := 1) sc__runs_values.nd rfl (.inl rfl) (pe_lst pa_nil))
    (pss_cons (ps_for PassesOwn.never rfl (pi_tup (pv 0)) (pg_tup rfl (pgs_cons (pg_name (i := 2) sc__runs_values.nd rfl (.inl rfl)) (pgs_cons (pg_name (i := 3) sc__runs_values.nd rfl (.inl rfl)) pgs_nil)))
      (pss_one (ps_expr (pe_bm PySem.F.plainAttrs_list PySem.F.slot_list_extend PySem.F.type_list_extend mt_extend (pv 1) (pa_cons (pe_op op_rep (pe_lst (pa_cons (pv 2) pa_nil)) (pv 3)) pa_nil)))))
    (pss_one (ps_ret (pv 1))))), ?_⟩
  obtain ⟨v, st, rfl, hd, hp, hl, q⟩ := h
  obtain ⟨b, ys, rfl, hS, hds⟩ := dp_tupD hd
  have hyl : ys.length = st.length := by have := dps_len hds; rw [List.length_map] at this; exact this
  refine q_asgL (el_lst ea_nil (by decide)) fun p H1 hp1 e1 h1 => ?_
  refine q_forT (ev_var rfl) (ex_t e1 hS) (fun i σ' H' => ∃ v2 v3, σ' = [some (.ref b), some (.ref p), v2, v3] ∧ Ex H H' ∧ H' p = some (.lst (expand (st.take i)))) (fun H2 e2 => ⟨none, none, rfl, e1.trans e2, e2 _ _ h1⟩) (fun i σ' H' _ pv => ?_) (fun i x σ' H' hi pv => ?_) fun σ' H' pv => ?_
  · obtain ⟨v2, v3, rfl, e, _⟩ := pv
    exact ex_t e hS
  · obtain ⟨v2, v3, rfl, e, hx⟩ := pv
    obtain ⟨dd, hdd, hxd⟩ := dps_get hds hi
    rw [List.getElem?_map] at hdd
    obtain ⟨⟨x0, c⟩, hst, rfl⟩ := Option.map_eq_some_iff.mp hdd
    obtain ⟨b2, rfl, hb2⟩ := dp_pair hxd (hp _ (List.mem_of_getElem? hst)).1.pl
    have hle := expand_le hst
    have hc1000 : c ≤ 1000 := by
      have h2 : (expand (st.take i)).length + c ≤ (expand st).length := hle
      omega
    refine gt2 (ex_t e hb2) ?_
    refine s_ext (ys := (List.replicate c [x0]).flatten) hx (ev_var rfl) (el_rep (el_lst (ea_cons (ev_var rfl) ea_nil) (by show 1 ≤ 100000; decide)) (fun _ _ => ev_var rfl) hc1000 (by show 1 ≤ 10; decide)) (by rw [flat_one, List.length_replicate]; show _ + c ≤ _; have h2 : (expand (st.take i)).length + c ≤ (expand st).length := hle; omega) fun H2 e2 => ⟨_, _, rfl, Ex.mut (e.trans e2) hp1, ?_⟩
    rw [upd_same, List.take_add_one, hst, flat_one]
    show _ = some (HO.lst (expand (st.take i ++ [(x0, c)])))
    rw [expand_snoc]
  · obtain ⟨v2, v3, rfl, e, hx⟩ := pv
    rw [hyl, List.take_length] at hx
    exact s_ret (ev_var rfl) fun H3 e3 => q p H3 hp1 (e.trans e3) (e3 _ _ hx)
theorem ok__deltas_values (D : Dn K mg "_deltas_values" s__deltas_values ["first", "least", "steps"]) :
    C8.Cal P w K mg base 1 "_deltas_values" (sp__deltas_values K) [] := by
  refine cal_of D sc__deltas_values (fun vs H Q E h => ?_) (fun f cdv A outer s H vs Q E hr h => ?_)
  · obtain ⟨_, _, _, _, rfl, _⟩ := h
    rfl
  refine ⟨_, (pss_cons (ps_set (i := 3) sc__deltas_values.nd rfl (.inl rfl) (pe_lst (pa_cons (pv 0) pa_nil)))
    (pss_cons (ps_for PassesOwn.never rfl (pi_list (pv 2)) (pg_name (i := 4) sc__deltas_values.nd rfl (.inl rfl))
      (pss_one (ps_expr (pe_bm PySem.F.plainAttrs_list PySem.F.slot_list_append PySem.F.type_list_append mt_append (pv 3) (pa_cons (pe_op op_add (pe_op op_add (pe_ix ix_list (pv 3) (pe_un un_neg pe_int) (fun _ _ => rfl)) (pv 1)) (pv 4)) pa_nil)))))
    (pss_one (ps_ret (pv 3))))), ?_⟩
  obtain ⟨x, l, a, ns, rfl, ha, hl, q⟩ := h
  refine q_asgL (xs := [.int x]) (el_lst (ea_cons (ev_var rfl) ea_nil) (by show 1 ≤ 100000; decide)) fun p H1 hp1 e1 h1 => ?_
  refine q_forLn (ev_var rfl) (sq_of (e1 _ _ ha)) (fun i σ' H' => ∃ v4, σ' = [some (.int x), some (.int l), some (.ref a), some (.ref p), v4] ∧ Ex H H' ∧ H' p = some (.lst ((List.range (i + 1)).map fun j => .int (lastD l x (ns.take j))))) (fun H2 e2 => ⟨none, rfl, e1.trans e2, e2 _ _ h1⟩) (fun i σ' H' _ pv => ?_) (fun i y σ' H' hi pv => ?_) fun σ' H' pv => ?_
  · obtain ⟨v4, rfl, e, _⟩ := pv
    exact sq_of (e _ _ ha)
  · obtain ⟨v4, rfl, e, hx⟩ := pv
    rw [List.getElem?_map] at hi
    obtain ⟨n, hn, rfl⟩ := Option.map_eq_some_iff.mp hi
    have hil := (List.getElem?_eq_some_iff.mp hn).1
    have el : ((List.range (i + 1)).map fun j => V.int (lastD l x (ns.take j))) = ((List.range i).map fun j => V.int (lastD l x (ns.take j))) ++ [.int (lastD l x (ns.take i))] := by rw [List.range_succ, List.map_append]; rfl
    refine s_app (v := .int (lastD l x (ns.take (i + 1)))) hx (ev_var rfl) ?_ (by rw [List.length_map, List.length_range]; omega) fun H2 e2 => ⟨_, rfl, Ex.mut (e.trans e2) hp1, ?_⟩
    · refine ev_is (ev_op (ev_op (ev_op (ev_var rfl) (ev_un ev_c ru_neg) (rv_ixL (sq_of hx) (by rw [el]; exact atI_last _ _))) (ev_var rfl) rv_I0) (ev_var rfl) rv_I0) ?_
      unfold lastD
      rw [foldl_take hn]
    · rw [upd_same, List.range_succ (n := i + 1), List.map_append]
      rfl
  · obtain ⟨v4, rfl, e, hx⟩ := pv
    rw [List.length_map] at hx
    exact s_ret (ev_var rfl) fun H3 e3 => q p H3 hp1 (e.trans e3) (e3 _ _ hx)
section
variable {σ : L2.St} {H : Hp} {ta tb tc : TE} {E : XK}
theorem el_unpack {w : Nat} {ns : List Int} (hI : InW w ns) (hw : w ≤ 100) (hn : ns.length ≤ 100) (ha : Ev ta σ H (.int (packN w ns))) (hb : Ev tb σ H (.int (w : Int))) (hc : Ev tc σ H (.int (ns.length : Int))) : EvL (tCall (sp_unpack K) [] E (tCons ta (tCons tb (tCons tc tNil)))) σ H (ns.map V.int) :=
  el_call (ea_cons ha (ea_cons hb (ea_cons hc ea_nil))) fun H1 e Q q E => ⟨_, w, ns.length, rfl, hw, hn, fun p H7 hp e7 h7 => q p H7 hp e7 (by rw [← unp_all hI]; exact h7)⟩
end
section
variable {σ : L2.St} {H : Hp} {ta tb tc : TE} {E : XK}
theorem el_deltas {x l : Int} {ns : List Int} (ha : Ev ta σ H (.int x)) (hb : Ev tb σ H (.int l)) (hc : EvL tc σ H (ns.map V.int)) (hn : ns.length ≤ 100) : EvL (tCall (sp__deltas_values K) [] E (tCons ta (tCons tb (tCons tc tNil)))) σ H ((List.range (ns.length + 1)).map fun j => .int (lastD l x (ns.take j))) := fun H1 e Q q =>
  ha H1 e _ fun H2 e2 => hb H2 (e.trans e2) _ fun H3 e3 => hc H3 ((e.trans e2).trans e3) _ fun p H4 hp e4 h4 => ⟨x, l, p, ns, rfl, h4, hn, fun p2 H5 hp2 e5 h5 => q p2 H5 (fresh_back ((e2.trans e3).trans e4) hp2) (((e2.trans e3).trans e4).trans e5) h5⟩
end
theorem ok_values_of (D : Dn K mg "values_of" s_values_of ["body"]) (c__deltas_values : C8.Cal P w K mg base 1 "_deltas_values" (sp__deltas_values K) []) (c__runs_values : C8.Cal P w K mg base 1 "_runs_values" (sp__runs_values K) []) (c_unpack : C8.Cal P w K mg base 1 "unpack" (sp_unpack K) []) (z_list : mg "list" = none) :
    C8.Cal P w K mg base 2 "values_of" (sp_values_of K) [] := by
  refine cal_of D sc_values_of (fun vs H Q E h => ?_) (fun f cdv A outer s H vs Q E hr h => ?_)
  · obtain ⟨_, _, _, _, rfl, _⟩ := h
    rfl
  refine ⟨_, (pss_cons (ps_set (i := 1) sc_values_of.nd rfl (.inl rfl) (pe_ix ix_tup (pv 0) pe_int (fun _ _ => rfl)))
    (pss_cons (ps_if (pt_cmpR op_eq (pv 1) pe_str (nomark _))
      (pss_one (ps_ret (pe_callTy call_list_of (by rfl) z_list (by decide +kernel) (pa_cons (pe_ix ix_tup (pv 0) pe_int (fun _ _ => rfl)) pa_nil))))
      pss_nil)
    (pss_cons (ps_if (pt_cmpR op_eq (pv 1) pe_str (nomark _))
      (pss_one (ps_ret (pe_op op_rep (pe_lst (pa_cons (pe_ix ix_tup (pv 0) pe_int (fun _ _ => rfl)) pa_nil)) (pe_ix ix_tup (pv 0) pe_int (fun _ _ => rfl)))))
      pss_nil)
    (pss_cons (ps_if (pt_cmpR op_eq (pv 1) pe_str (nomark _))
      (pss_one (ps_ret (C8.pe_c c__runs_values hr (by decide) (by rfl) (pa_cons (pe_ix ix_tup (pv 0) pe_int (fun _ _ => rfl)) pa_nil))))
      pss_nil)
    (pss_cons (ps_if (pt_cmpR op_eq (pv 1) pe_str (nomark _))
      (pss_cons (ps_asg (pv 0) (pg_tup rfl (pgs_cons (pg_name (i := 2) sc_values_of.nd rfl (.inl rfl)) (pgs_cons (pg_name (i := 3) sc_values_of.nd rfl (.inr rfl)) (pgs_cons (pg_name (i := 4) sc_values_of.nd rfl (.inl rfl)) (pgs_cons (pg_name (i := 5) sc_values_of.nd rfl (.inl rfl)) (pgs_cons (pg_name (i := 6) sc_values_of.nd rfl (.inl rfl)) pgs_nil)))))))
    (pss_one (ps_ret (pe_lc (own := [("index", 9)]) (g := gName 9) (tt := tYes) rfl sc_values_of.nd (pi_list (C8.pe_c c_unpack hr (by decide) (by rfl) (pa_cons (pv 6) (pa_cons (pv 5) (pa_cons (pv 4) pa_nil))))) (blkOk_by (N := n_values_of) (sc := C8.fnScope s_values_of) (by decide +kernel)) (fun _ _ _ _ _ => pg_name (i := 9) sc_values_of.nd rfl (Or.inl rfl)) (fun _ _ _ _ _ => pts_nil) (fun _ _ _ _ _ => (pe_ix (ix_tupK (K := K) rfl) (pv 3) (pv 9) (fun _ _ => rfl)))))))
      pss_nil)
    (pss_cons (ps_if (pt_cmpR op_eq (pv 1) pe_str (nomark _))
      (pss_cons (ps_asg (pv 0) (pg_tup rfl (pgs_cons (pg_name (i := 2) sc_values_of.nd rfl (.inl rfl)) (pgs_cons (pg_name (i := 7) sc_values_of.nd rfl (.inr rfl)) (pgs_cons (pg_name (i := 4) sc_values_of.nd rfl (.inl rfl)) (pgs_cons (pg_name (i := 5) sc_values_of.nd rfl (.inl rfl)) (pgs_cons (pg_name (i := 6) sc_values_of.nd rfl (.inl rfl)) pgs_nil)))))))
    (pss_one (ps_ret (pe_lc (own := [("rest", 10)]) (g := gName 10) (tt := tYes) rfl sc_values_of.nd (pi_list (C8.pe_c c_unpack hr (by decide) (by rfl) (pa_cons (pv 6) (pa_cons (pv 5) (pa_cons (pv 4) pa_nil))))) (blkOk_by (N := n_values_of) (sc := C8.fnScope s_values_of) (by decide +kernel)) (fun _ _ _ _ _ => pg_name (i := 10) sc_values_of.nd rfl (Or.inl rfl)) (fun _ _ _ _ _ => pts_nil) (fun _ _ _ _ _ => (pe_op op_add (pv 7) (pv 10)))))))
      pss_nil)
    (pss_cons (ps_asg (pv 0) (pg_tup rfl (pgs_cons (pg_name (i := 2) sc_values_of.nd rfl (.inl rfl)) (pgs_cons (pg_name (i := 8) sc_values_of.nd rfl (.inl rfl)) (pgs_cons (pg_name (i := 7) sc_values_of.nd rfl (.inr rfl)) (pgs_cons (pg_name (i := 4) sc_values_of.nd rfl (.inl rfl)) (pgs_cons (pg_name (i := 5) sc_values_of.nd rfl (.inl rfl)) (pgs_cons (pg_name (i := 6) sc_values_of.nd rfl (.inl rfl)) pgs_nil))))))))
    (pss_one (ps_ret (C8.pe_c c__deltas_values hr (by decide) (by rfl) (pa_cons (pv 8) (pa_cons (pv 7) (pa_cons (C8.pe_c c_unpack hr (by decide) (by rfl) (pa_cons (pv 6) (pa_cons (pv 5) (pa_cons (pe_op op_sub (pv 4) pe_int) pa_nil)))) pa_nil))))))))))))), ?_⟩
  obtain ⟨v, fm, d, xs, rfl, hf, hd, hne, hx, q⟩ := h
  have hz := hx.2
  have nx : ∀ {a b : Str} {H0 : Hp} {σ : L2.St}, σ[1]? = some (some (.str a)) → decide (V.str a = V.str b) = false → EvT (tTest (tOp rEq (tVar 1) (tC (.str b)))) σ H0 false := fun h1 h2 => et_eqS (ev_var h1) ev_c h2
  have yx : ∀ {a : Str} {H0 : Hp} {σ : L2.St}, σ[1]? = some (some (.str a)) → EvT (tTest (tOp rEq (tVar 1) (tC (.str a)))) σ H0 true := fun h1 => et_eqS (ev_var h1) ev_c (decide_eq_true rfl)
  cases hf with
  | plain =>
    obtain ⟨b, ys, rfl, hS, hds⟩ := dp_tupD hd
    cases hds with
    | cons h1 h2 =>
    cases h2 with
    | cons h3 h4 =>
    cases h4
    obtain rfl := dp_strD h1
    obtain ⟨c, zs, rfl, hT, hzs⟩ := dp_tupD h3
    obtain rfl := dps_plain hzs fun x h => hx.pl h
    refine q_asg (ev_op (ev_var rfl) ev_c (rv_ixT hS (atI_nat (j := 0) rfl))) fun H1 e1 => ?_
    refine q_when (yx rfl) (fun _ H2 e2 => ?_) fun hb => nomatch hb
    have x2 := e1.trans e2
    exact s_retL (el_listT (ev_op (ev_var rfl) ev_c (rv_ixT (ex_t x2 hS) (atI_nat (j := 1) rfl))) (ex_t x2 hT)) fun p H3 hp e3 h3 => q p H3 (fresh_back x2 hp) (x2.trans e3) h3
  | constant =>
    unfold constD at hd hne
    split at hd
    · rename_i hc; rw [if_pos hc] at hne; exact absurd rfl hne
    · rename_i hc
      have hc2 : (xs.isEmpty || !allSame xs) = false := by cases h : (xs.isEmpty || !allSame xs) with
        | false => rfl
        | true => exact absurd h hc
      rw [Bool.or_eq_false_iff] at hc2
      obtain ⟨x0, r, rfl⟩ := List.exists_cons_of_ne_nil (l := xs) (fun z => by rw [z] at hc2; exact nomatch hc2.1)
      obtain ⟨b, ys, rfl, hS, hds⟩ := dp_tupD hd
      cases hds with
      | cons h1 h2 =>
      cases h2 with
      | cons h3 h4 =>
      cases h4 with
      | cons h5 h6 =>
      cases h6
      obtain rfl := dp_strD h1
      have e0 := (dp_plain h3 (hx.pl List.mem_cons_self)).symm
      subst e0
      obtain rfl := dp_intD h5
      have hall : ∀ y ∈ x0 :: r, y = x0 := fun y hy => by
        have h := hc2.2
        have h2 : allSame (x0 :: r) = true := by cases h3 : allSame (x0 :: r) with
          | true => rfl
          | false => rw [h3] at h; exact nomatch h
        unfold allSame at h2
        exact same_eq (hx.ok hy) (hx.ok List.mem_cons_self) (List.all_eq_true.mp h2 y hy)
      refine q_asg (ev_op (ev_var rfl) ev_c (rv_ixT hS (atI_nat (j := 0) rfl))) fun H1 e1 => ?_
      refine q_when (nx rfl (by decide +kernel)) (fun hb => nomatch hb) fun _ H2 e2 => ?_
      refine q_when (yx rfl) (fun _ H3 e3 => ?_) fun hb => nomatch hb
      have x3 := (e1.trans e2).trans e3
      refine s_retL (xs := x0 :: r) ?_ fun p H4 hp e4 h4 => q p H4 (fresh_back x3 hp) (x3.trans e4) h4
      rw [all_rep hall]
      exact el_rep (el_lst (ea_cons (ev_op (ev_var rfl) ev_c (rv_ixT (ex_t x3 hS) (atI_nat (j := 1) rfl))) ea_nil) (by show 1 ≤ 100000; decide)) (fun H4 e4 => ev_op (ev_var rfl) ev_c (rv_ixT (ex_t (x3.trans e4) hS) (atI_nat (j := 2) rfl))) (by omega) (by show 1 ≤ 10; decide)
  | runs =>
    obtain ⟨b, ys, rfl, hS, hds⟩ := dp_tupD hd
    cases hds with
    | cons h1 h2 =>
    cases h2 with
    | cons h3 h4 =>
    cases h4
    obtain rfl := dp_strD h1
    refine q_asg (ev_op (ev_var rfl) ev_c (rv_ixT hS (atI_nat (j := 0) rfl))) fun H1 e1 => ?_
    refine q_when (nx rfl (by decide +kernel)) (fun hb => nomatch hb) fun _ H2 e2 => ?_
    refine q_when (nx rfl (by decide +kernel)) (fun hb => nomatch hb) fun _ H3 e3 => ?_
    refine q_when (yx rfl) (fun _ H4 e4 => ?_) fun hb => nomatch hb
    have x4 := ((e1.trans e2).trans e3).trans e4
    have hb := runs_back hx
    refine s_retL (xs := xs) (el_call (ea_cons (ev_op (ev_var rfl) ev_c (rv_ixT (ex_t x4 hS) (atI_nat (j := 1) rfl))) ea_nil) fun H5 e5 Q k E => ⟨_, runsOf xs, rfl, ex_dp (x4.trans e5) h3, runs_pv xs [] (fun t ht => by cases ht) hx.1, by rw [hb]; omega, fun p H6 hp e6 h6 => k p H6 hp e6 (by rw [← hb]; exact h6)⟩) fun p H5 hp e5 h5 => q p H5 (fresh_back x4 hp) (x4.trans e5) h5
  | dictionary =>
    obtain ⟨b, ys, rfl, hS, hds⟩ := dp_tupD hd
    cases hds with
    | cons h1 h2 =>
    cases h2 with
    | cons h3 h4 =>
    cases h4 with
    | cons h5 h6 =>
    cases h6 with
    | cons h7 h8 =>
    cases h8 with
    | cons h9 ha =>
    cases ha
    obtain rfl := dp_strD h1
    obtain ⟨c, zs, rfl, hT, hzs⟩ := dp_tupD h3
    have hall := words_all xs []
    have hsub := words_sub xs []
    change ∀ y, y ∈ xs → (wordsOf xs).any (isW y) = true at hall
    change ∀ y, y ∈ wordsOf xs → _ at hsub
    have hin : ∀ w ∈ wordsOf xs, w ∈ xs := fun w hw => by
      rcases hsub w hw with h | h
      · cases h
      · exact h
    have hl40 : (wordsOf xs).length ≤ 40 := Nat.le_trans (words_len xs []) (by rw [List.length_nil]; omega)
    obtain rfl := dps_plain hzs fun x h => hx.pl (hin x h)
    obtain rfl := dp_intD h5
    obtain rfl := dp_intD h7
    obtain rfl := dp_intD h9
    refine q_asg (ev_op (ev_var rfl) ev_c (rv_ixT hS (atI_nat (j := 0) rfl))) fun H1 e1 => ?_
    refine q_when (nx rfl (by decide +kernel)) (fun hb => nomatch hb) fun _ H2 e2 => ?_
    refine q_when (nx rfl (by decide +kernel)) (fun hb => nomatch hb) fun _ H3 e3 => ?_
    refine q_when (nx rfl (by decide +kernel)) (fun hb => nomatch hb) fun _ H4 e4 => ?_
    refine q_when (yx rfl) (fun _ H5 e5 => ?_) fun hb => nomatch hb
    have x5 := (((e1.trans e2).trans e3).trans e4).trans e5
    refine q_asgV (ev_var rfl) fun H6 e6 => gt5 (ex_t (x5.trans e6) hS) ?_
    have x6 := x5.trans e6
    have hI : InW (dictWidth (wordsOf xs)) (xs.map fun x => ((placeOf (wordsOf xs) x : Nat) : Int)) := fun n hn => by
      obtain ⟨x, hm, rfl⟩ := List.mem_map.mp hn
      exact ⟨by omega, dict_in (hall x hm)⟩
    refine s_retL (xs := xs.map fun x => x) ?_ fun p H7 hp e7 h7 => q p H7 (fresh_back x6 hp) (x6.trans e7) (by rw [← List.map_id' xs]; exact h7)
    refine el_mapNL (xs := xs) (k := fun x => V.int ((placeOf (wordsOf xs) x : Nat) : Int)) ?_ (by omega) (fun _ => rfl) fun x H7 e7 hm => ?_
    · have := el_unpack (K := K) (σ := [some (.ref b), some (.str "dictionary"), some (.str "dictionary"), some (.ref c), some (.int (xs.length : Int)), some (.int (dictWidth (wordsOf xs) : Nat)), some (.int (dictBits xs)), none, none, none, none]) (H := H6) (E := C8.E0) (ta := tVar 6) (tb := tVar 5) (tc := tVar 4) hI (by have := dict_w hl40; omega) (by rw [List.length_map]; omega) (ev_var rfl) (ev_var rfl) (by rw [List.length_map]; exact ev_var rfl)
      rw [List.map_map] at this
      exact this
    · exact ev_op (ev_var rfl) (ev_var rfl) (rv_ixT (ex_t (x6.trans e7) hT) (atI_nat (place_at (fun w hw => hx.ok (hin w hw)) (hx.ok hm) (hall x hm))))
  | packed =>
    unfold packedD at hd hne
    split at hd
    · rename_i hc; rw [if_pos hc] at hne; exact absurd rfl hne
    · rename_i hc
      have hxs := ints_eq (xs := xs) (by cases h : allInt xs with
        | true => rfl
        | false => rw [h] at hc; exact absurd rfl hc)
      have hr := ints_in hx
      have hln : (xs.map zOf).length = xs.length := List.length_map ..
      generalize xs.map zOf = ns at *
      subst hxs
      have hL := low_min (ns := ns) fun n hn => by have := hr n hn; omega
      obtain ⟨b, ys, rfl, hS, hds⟩ := dp_tupD hd
      cases hds with
      | cons h1 h2 =>
      cases h2 with
      | cons h3 h4 =>
      cases h4 with
      | cons h5 h6 =>
      cases h6 with
      | cons h7 h8 =>
      cases h8 with
      | cons h9 ha =>
      cases ha
      obtain rfl := dp_strD h1
      obtain rfl := dp_intD h3
      obtain rfl := dp_intD h5
      obtain rfl := dp_intD h7
      obtain rfl := dp_intD h9
      refine q_asg (ev_op (ev_var rfl) ev_c (rv_ixT hS (atI_nat (j := 0) rfl))) fun H1 e1 => ?_
      refine q_when (nx rfl (by decide +kernel)) (fun hb => nomatch hb) fun _ H2 e2 => ?_
      refine q_when (nx rfl (by decide +kernel)) (fun hb => nomatch hb) fun _ H3 e3 => ?_
      refine q_when (nx rfl (by decide +kernel)) (fun hb => nomatch hb) fun _ H4 e4 => ?_
      refine q_when (nx rfl (by decide +kernel)) (fun hb => nomatch hb) fun _ H5 e5 => ?_
      refine q_when (yx rfl) (fun _ H6 e6 => ?_) fun hb => nomatch hb
      have x6 := ((((e1.trans e2).trans e3).trans e4).trans e5).trans e6
      refine q_asgV (ev_var rfl) fun H7 e7 => gt5 (ex_t (x6.trans e7) hS) ?_
      have x7 := x6.trans e7
      refine s_retL (xs := ns.map V.int) ?_ fun p H8 hp e8 h8 => q p H8 (fresh_back x7 hp) (x7.trans e8) h8
      refine el_mapNL (xs := ns) (k := fun n => V.int (n - foldD min 0 ns)) ?_ (by omega) (fun _ => rfl) fun n H8 e8 hm => ev_is (ev_op (ev_var rfl) (ev_var rfl) rv_I0) (congrArg V.int (by omega))
      have hu := fun {σ ta tb tc} (ha : Ev ta σ H7 (.int (bitsOf (foldD min 0 ns) ns))) hb (hc : Ev tc σ H7 (.int ((ns.map V.int).length : Int))) => el_unpack (K := K) (E := C8.E0) (ta := ta) (tb := tb) (tc := tc) (inW_of hL) (by have := width_le hL; omega) (by rw [List.length_map]; omega) ha hb (by rw [List.length_map] at hc ⊢; exact hc)
      have := hu (ev_var (i := 6) rfl) (ev_var (i := 5) rfl) (ev_var (i := 4) rfl) (σ := [some (.ref b), some (.str "packed"), some (.str "packed"), none, some (.int ((ns.map V.int).length : Int)), some (.int (widthOf (foldD min 0 ns) ns : Nat)), some (.int (bitsOf (foldD min 0 ns) ns)), some (.int (foldD min 0 ns)), none, none, none])
      rw [List.map_map] at this
      exact this
  | deltas =>
    unfold deltasD at hd hne
    split at hd
    · rename_i hc; rw [if_pos hc] at hne; exact absurd rfl hne
    · rename_i hc
      have hc2 : (xs.isEmpty || !allInt xs) = false := by cases h : (xs.isEmpty || !allInt xs) with
        | false => rfl
        | true => exact absurd h hc
      rw [Bool.or_eq_false_iff] at hc2
      have hxs := ints_eq (xs := xs) (by cases h : allInt xs with
        | true => rfl
        | false => rw [h] at hc2; exact nomatch hc2.2)
      have hr := ints_in hx
      have hln : (xs.map zOf).length = xs.length := List.length_map ..
      have hpos : 0 < xs.length := by
        cases xs with
        | nil => exact nomatch hc2.1
        | cons x r => exact Nat.succ_pos _
      generalize xs.map zOf = ns at *
      subst hxs
      rw [List.length_map] at hpos hz
      have hL := low_min (ns := stepsOf ns) (steps_in hr)
      have hsl : (stepsOf ns).length = ns.length - 1 := by unfold stepsOf; rw [List.length_map, List.length_range]
      obtain ⟨b, ys, rfl, hS, hds⟩ := dp_tupD hd
      cases hds with
      | cons h1 h2 =>
      cases h2 with
      | cons h3 h4 =>
      cases h4 with
      | cons h5 h6 =>
      cases h6 with
      | cons h7 h8 =>
      cases h8 with
      | cons h9 ha =>
      cases ha with
      | cons hb hc3 =>
      cases hc3
      obtain rfl := dp_strD h1
      have h0 : vD ((ns.map V.int).headD .non) = .int (ns.getD 0 0) := by
        cases ns with
        | nil => exact absurd hpos (Nat.lt_irrefl 0)
        | cons n r => rfl
      rw [h0] at h3
      obtain rfl := dp_intD h3
      obtain rfl := dp_intD h5
      obtain rfl := dp_intD h7
      obtain rfl := dp_intD h9
      obtain rfl := dp_intD hb
      refine q_asg (ev_op (ev_var rfl) ev_c (rv_ixT hS (atI_nat (j := 0) rfl))) fun H1 e1 => ?_
      refine q_when (nx rfl (by decide +kernel)) (fun hb => nomatch hb) fun _ H2 e2 => ?_
      refine q_when (nx rfl (by decide +kernel)) (fun hb => nomatch hb) fun _ H3 e3 => ?_
      refine q_when (nx rfl (by decide +kernel)) (fun hb => nomatch hb) fun _ H4 e4 => ?_
      refine q_when (nx rfl (by decide +kernel)) (fun hb => nomatch hb) fun _ H5 e5 => ?_
      refine q_when (nx rfl (by decide +kernel)) (fun hb => nomatch hb) fun _ H6 e6 => ?_
      have x6 := ((((e1.trans e2).trans e3).trans e4).trans e5).trans e6
      refine q_asgV (ev_var rfl) fun H7 e7 => gt6 (ex_t (x6.trans e7) hS) ?_
      have x7 := x6.trans e7
      generalize hl : foldD min 0 (stepsOf ns) = lo at *
      have hlm : ((stepsOf ns).map fun n => n - lo).length = ns.length - 1 := by rw [List.length_map, hsl]
      have hd2 := fun {σ ta tb tc td te} (h1 : Ev ta σ H7 (.int (ns.getD 0 0))) (h2 : Ev tb σ H7 (.int lo)) (h3 : Ev tc σ H7 (.int (bitsOf lo (stepsOf ns)))) (h4 : Ev td σ H7 (.int (widthOf lo (stepsOf ns) : Nat))) (h5 : Ev te σ H7 (.int (((stepsOf ns).map fun n => n - lo).length : Int))) => el_deltas (K := K) (E := C8.E0) (tc := tCall (sp_unpack K) [] C8.E0 (tCons tc (tCons td (tCons te tNil)))) h1 h2 (el_unpack (inW_of hL) (by have := width_le hL; omega) (by rw [hlm]; omega) h3 h4 h5) (by rw [hlm]; omega)
      have el : ((List.range (((stepsOf ns).map fun n => n - lo).length + 1)).map fun j => V.int (lastD lo (ns.getD 0 0) (((stepsOf ns).map fun n => n - lo).take j))) = ns.map V.int := ?_
      · refine s_retL (xs := (List.range (((stepsOf ns).map fun n => n - lo).length + 1)).map fun j => V.int (lastD lo (ns.getD 0 0) (((stepsOf ns).map fun n => n - lo).take j))) (hd2 (ev_var rfl) (ev_var rfl) (ev_var rfl) (ev_var rfl) (ev_is (ev_op (ev_var rfl) ev_c rv_I0) (congrArg V.int (by rw [hlm, List.length_map]; omega)))) fun p H8 hp e8 h8 => q p H8 (fresh_back x7 hp) (x7.trans e8) ?_
        rw [← el]
        exact h8
      rw [hlm, show ns.length - 1 + 1 = ns.length by omega]
      apply List.ext_getElem?
      intro i
      rw [List.getElem?_map, List.getElem?_map]
      by_cases hi : i < ns.length
      · rw [List.getElem?_range hi, List.getElem?_eq_getElem hi]
        show some (V.int (lastD lo (ns.getD 0 0) (((stepsOf ns).map fun n => n - lo).take i))) = some (V.int ns[i])
        rw [delta_back i hi, List.getD_eq_getElem?_getD, List.getElem?_eq_getElem hi]
        rfl
      · rw [List.getElem?_eq_none (by rw [List.length_range]; omega), List.getElem?_eq_none (by omega)]
        rfl
end

/-! ### the body of a form -/
def sp_body_of (K : PySem.W.Frag) : Sp := fun vs H Q _ => ∃ (fm : Str) (d : List V → PyData) (a : Addr) (xs : List V), vs = [.str fm, .ref a] ∧ FormD fm d ∧ SqL K H a xs ∧ PVs xs ∧ ∀ v H', Ex H H' → Dp K H' v (d xs) → Q v H'
theorem rv_notInKD {K : PySem.W.Frag} {d : Addr} {z : Str} {r : Option Value} {H : Hp} (e : PySem.W.nsIn K d z = some r) : RV (fun x y H Q => ∃ (z : Str) (r : Option Value), x = .str z ∧ y = .ref d ∧ PySem.W.nsIn K d z = some r ∧ Q (.bl (!r.isSome)) H) (.str z) (.ref d) H (.bl (!r.isSome)) :=
  fun H1 _ _ q => ⟨z, r, rfl, rfl, e, q H1 (Ex.refl H1)⟩
theorem rv_ixKD {K : PySem.W.Frag} {w : World} {d : Addr} {es : Array DictEntry} {n : Nat} {z : Str} {u : Value} {v : V} {H : Hp} (D : KDict K w d es n) (e : PySem.W.nsIn K d z = some (some u)) (r : RelV v u) : RV (rIxD K w) (.ref d) (.str z) H v :=
  fun H1 _ _ q => ⟨d, z, v, rfl, rfl, ⟨es, n, u, D.at_, D.lit, e, r⟩, q H1 (Ex.refl H1)⟩
theorem ed_heldB {P : Program} {w : World} {K : PySem.W.Frag} {mg : Str → Option Value} {base : Heap} {i k : Nat} {σ : L2.St} {H : Hp} {ta : TE} {f a : Addr} {d : List V → PyData} {xs : List V} (hσ : σ[i]? = some (some (.ref f))) (h : L2.Held P w K mg base k f (spB d K)) (ha : Ev ta σ H (.ref a)) (hS : SqL K H a xs) (hx : PVs xs) :
    EvD K (tCallH P w K mg base i k (tCons ta tNil)) σ H (d xs) := fun H1 e Q q => ⟨f, _, hσ, h, ha H1 e _ fun H2 e2 => ⟨a, xs, rfl, ex_l (e.trans e2) hS, hx, fun v H' e' hd => q v H' (e2.trans e') hd⟩⟩
section
variable {P : Program} {w : World} {K : PySem.W.Frag} {mg : Str → Option Value} {base : Heap}
theorem ok_body_of (D : Dn K mg "body_of" s_body_of ["form", "present"]) {p__BODIES : Addr} {es__BODIES : Array DictEntry} {n__BODIES : Nat} (g__BODIES : ∃ u, mg "_BODIES" = some u ∧ RelV (.ref p__BODIES) u) (h__BODIES : KDict K w p__BODIES es__BODIES n__BODIES) (tab : ∀ fm d, FormD fm d → ∃ f, PySem.W.nsIn K p__BODIES fm = some (some (.ref f)) ∧ L2.Held P w K mg base 4 f (spB d K)) :
    C8.Cal P w K mg base 5 "body_of" (sp_body_of K) [] := by
  refine cal_of D sc_body_of (fun vs H Q E h => ?_) (fun f cdv A outer s H vs Q E hr h => ?_)
  · obtain ⟨_, _, _, _, rfl, _⟩ := h
    rfl
  refine ⟨_, (pss_cons (ps_if (pt_cmpR (op_notIn_kd h__BODIES) (pv 0) (C8.pe_gc rfl g__BODIES) (by with_unfolding_all rfl))
      (pss_one (ps_ret pe_non))
      pss_nil)
    (pss_cons (ps_set (i := 2) sc_body_of.nd rfl (.inl rfl) (pe_ix ix_kdict (C8.pe_gc rfl g__BODIES) (pv 0) (fun _ _ => rfl)))
    (pss_one (ps_ret (pe_callH (i := 2) hr rfl (Or.inl rfl) (pa_cons (pv 1) pa_nil)))))), ?_⟩
  obtain ⟨fm, d, a, xs, rfl, hf, hS, hx, q⟩ := h
  obtain ⟨f, e1, hh⟩ := tab fm d hf
  refine q_when (b := !true) (et_test (ev_op (ev_var rfl) ev_c (rv_notInKD e1))) (fun hb => nomatch hb) fun _ H1 x1 => ?_
  refine q_asg (ev_op ev_c (ev_var rfl) (rv_ixKD (v := .ref _) h__BODIES e1 rfl)) fun H2 x2 => ?_
  exact s_retD (ed_heldB rfl hh (ev_var rfl) (ex_l (x1.trans x2) hS) hx) fun v H3 x3 hd => q v H3 ((x1.trans x2).trans x3) hd
end

/-! ### a body tells its values -/
theorem vD_inj {x y : V} (hx : Pl x) (hy : Pl y) (h : vD x = vD y) : x = y := by
  cases hx <;> cases hy <;> simp [vD] at h <;> first | rfl | (subst h; rfl)
theorem vDs_inj : ∀ {xs ys : List V}, (∀ x ∈ xs, Pl x) → (∀ y ∈ ys, Pl y) → xs.map vD = ys.map vD → xs = ys
  | [], [], _, _, _ => rfl
  | [], _ :: _, _, _, h => nomatch h
  | _ :: _, [], _, _, h => nomatch h
  | x :: r, y :: t, hx, hy, h => by
    have h2 := List.cons.inj h
    rw [vD_inj (hx x List.mem_cons_self) (hy y List.mem_cons_self) h2.1, vDs_inj (fun z hz => hx z (List.mem_cons_of_mem _ hz)) (fun z hz => hy z (List.mem_cons_of_mem _ hz)) h2.2]
theorem pairs_inj : ∀ {xs ys : List (V × Nat)}, (∀ x ∈ xs, PV x.1) → (∀ y ∈ ys, PV y.1) → xs.map pairD = ys.map pairD → xs = ys
  | [], [], _, _, _ => rfl
  | [], _ :: _, _, _, h => nomatch h
  | _ :: _, [], _, _, h => nomatch h
  | (x, c) :: r, (y, e) :: t, hx, hy, h => by
    have h2 := List.cons.inj h
    have h3 := List.cons.inj (PyData.tuple.inj h2.1)
    have h4 := List.cons.inj h3.2
    have e1 := vD_inj (hx _ List.mem_cons_self).1.pl (hy _ List.mem_cons_self).1.pl h3.1
    have e2 : c = e := Int.ofNat.inj (PyData.int.inj h4.1)
    have e1' : x = y := e1
    rw [e1', e2, pairs_inj (fun z hz => hx z (List.mem_cons_of_mem _ hz)) (fun z hz => hy z (List.mem_cons_of_mem _ hz)) h2.2]
theorem ints_inj : ∀ {a b : List Int}, a.map V.int = b.map V.int → a = b
  | [], [], _ => rfl
  | [], _ :: _, h => nomatch h
  | _ :: _, [], h => nomatch h
  | x :: r, y :: t, h => by
    have h2 := List.cons.inj h
    rw [V.int.inj h2.1, ints_inj h2.2]
theorem pack_inj {w : Nat} {a b : List Int} (ha : InW w a) (hb : InW w b) (hl : a.length = b.length) (h : packN w a = packN w b) : a = b := by
  have e1 := unp_all ha
  have e2 := unp_all hb
  rw [hl, h] at e1
  exact ints_inj (e1.symm.trans e2)
theorem rests_inj {l : Int} {a b : List Int} (h : (a.map fun n => n - l) = b.map fun n => n - l) : a = b := by
  have e : ∀ c : List Int, ((c.map fun n => n - l).map fun n => n + l) = c := fun c => by
    rw [List.map_map]
    conv => rhs; rw [← List.map_id' c]
    exact List.map_congr_left fun n _ => by show n - l + l = n; omega
  rw [← e a, h, e b]
theorem inj_plain {xs ys : List V} (hx : PVs xs) (hy : PVs ys) (h : plainD xs = plainD ys) : xs = ys := by
  have h2 := List.cons.inj (List.cons.inj (PyData.tuple.inj h)).2
  exact vDs_inj (fun x h => hx.pl h) (fun x h => hy.pl h) (PyData.tuple.inj h2.1)
theorem inj_const {xs ys : List V} (hx : PVs xs) (hy : PVs ys) (hn : constD xs ≠ .none) (h : constD xs = constD ys) : xs = ys := by
  have key : ∀ {zs : List V}, PVs zs → constD zs ≠ .none → constD zs = .tuple [.str "constant", vD (zs.headD .non), .int zs.length] ∧ zs = (List.replicate zs.length [zs.headD .non]).flatten ∧ Pl (zs.headD .non) := fun {zs} hz hn => by
    unfold constD at hn ⊢
    by_cases hc : (zs.isEmpty || !allSame zs) = true
    · rw [if_pos hc] at hn
      exact absurd rfl hn
    · rw [if_neg hc]
      have hc2 : (zs.isEmpty || !allSame zs) = false := Bool.eq_false_iff.mpr hc
      rw [Bool.or_eq_false_iff] at hc2
      obtain ⟨x0, r, rfl⟩ := List.exists_cons_of_ne_nil (l := zs) (fun z => by rw [z] at hc2; exact nomatch hc2.1)
      refine ⟨rfl, all_rep fun y hy => ?_, hz.pl List.mem_cons_self⟩
      have h2 : allSame (x0 :: r) = true := by
        cases h3 : allSame (x0 :: r) with
        | true => rfl
        | false => rw [h3] at hc2; exact nomatch hc2.2
      exact same_eq (hz.ok hy) (hz.ok List.mem_cons_self) (List.all_eq_true.mp h2 y hy)
  obtain ⟨e1, r1, p1⟩ := key hx hn
  obtain ⟨e2, r2, p2⟩ := key hy (h ▸ hn)
  rw [e1, e2] at h
  have h2 := List.cons.inj (List.cons.inj (PyData.tuple.inj h)).2
  have h3 := List.cons.inj h2.2
  have a1 := vD_inj p1 p2 h2.1
  have a2 : xs.length = ys.length := Int.ofNat.inj (PyData.int.inj h3.1)
  rw [r1, r2, a1, a2]
theorem inj_runs {xs ys : List V} (hx : PVs xs) (hy : PVs ys) (h : runsD xs = runsD ys) : xs = ys := by
  have h2 := List.cons.inj (List.cons.inj (PyData.tuple.inj h)).2
  have e := pairs_inj (runs_pv xs [] (fun t ht => by cases ht) hx.1) (runs_pv ys [] (fun t ht => by cases ht) hy.1) (PyData.tuple.inj h2.1)
  rw [← runs_back hx, ← runs_back hy]
  exact congrArg expand e
theorem words_in {xs : List V} {w : V} (h : w ∈ wordsOf xs) : w ∈ xs := by
  rcases words_sub xs [] w h with h | h
  · cases h
  · exact h
theorem by_places {xs : List V} (hx : PVs xs) : xs = (xs.map fun x => ((placeOf (wordsOf xs) x : Nat) : Int)).map fun i => (wordsOf xs).getD i.toNat .non := by
  rw [List.map_map]
  conv => lhs; rw [← List.map_id' xs]
  refine List.map_congr_left fun x hm => ?_
  have h := place_at (ws := wordsOf xs) (x := x) (fun w hw => hx.ok (words_in hw)) (hx.ok hm) (words_all xs [] x hm)
  show x = (wordsOf xs).getD ((placeOf (wordsOf xs) x : Nat) : Int).toNat .non
  rw [Int.toNat_natCast, List.getD_eq_getElem?_getD, h]
  rfl
theorem inj_dict {xs ys : List V} (hx : PVs xs) (hy : PVs ys) (h : dictD xs = dictD ys) : xs = ys := by
  have h2 := List.cons.inj (List.cons.inj (PyData.tuple.inj h)).2
  have h3 := List.cons.inj h2.2
  have h4 := List.cons.inj h3.2
  have h5 := List.cons.inj h4.2
  have ew : wordsOf xs = wordsOf ys := vDs_inj (fun w hw => hx.pl (words_in hw)) (fun w hw => hy.pl (words_in hw)) (PyData.tuple.inj h2.1)
  have el : xs.length = ys.length := Int.ofNat.inj (PyData.int.inj h3.1)
  have eb : dictBits xs = dictBits ys := PyData.int.inj h5.1
  have ix : ∀ {zs : List V}, PVs zs → InW (dictWidth (wordsOf zs)) (zs.map fun x => ((placeOf (wordsOf zs) x : Nat) : Int)) := fun {zs} hz n hn => by
    obtain ⟨x, hm, rfl⟩ := List.mem_map.mp hn
    exact ⟨by omega, dict_in (words_all zs [] x hm)⟩
  have iy := ix hy
  unfold dictBits at eb
  rw [← ew] at eb iy
  have ep := pack_inj (ix hx) iy (by rw [List.length_map, List.length_map, el]) eb
  rw [by_places hx, by_places hy, ← ew, ep]
theorem inj_packed {xs ys : List V} (hx : PVs xs) (hy : PVs ys) (hn : packedD xs ≠ .none) (h : packedD xs = packedD ys) : xs = ys := by
  have key : ∀ {zs : List V}, packedD zs ≠ .none → allInt zs = true := fun {zs} hn => by
    unfold packedD at hn
    cases h : allInt zs with
    | true => rfl
    | false => rw [h] at hn; exact absurd rfl hn
  have a1 := key hn
  have a2 := key (h ▸ hn)
  unfold packedD at h
  rw [if_neg (by rw [a1]; decide), if_neg (by rw [a2]; decide)] at h
  have h2 := List.cons.inj (List.cons.inj (PyData.tuple.inj h)).2
  have h3 := List.cons.inj h2.2
  have h4 := List.cons.inj h3.2
  have h5 := List.cons.inj h4.2
  have lx := low_min (ns := xs.map zOf) fun n hn => by have := ints_in hx n hn; omega
  have ly := low_min (ns := ys.map zOf) fun n hn => by have := ints_in hy n hn; omega
  have e1 : foldD min 0 (xs.map zOf) = foldD min 0 (ys.map zOf) := PyData.int.inj h2.1
  have e2 : xs.length = ys.length := Int.ofNat.inj (PyData.int.inj h3.1)
  have e3 : widthOf (foldD min 0 (xs.map zOf)) (xs.map zOf) = widthOf (foldD min 0 (ys.map zOf)) (ys.map zOf) := Int.ofNat.inj (PyData.int.inj h4.1)
  have e4 : bitsOf (foldD min 0 (xs.map zOf)) (xs.map zOf) = bitsOf (foldD min 0 (ys.map zOf)) (ys.map zOf) := PyData.int.inj h5.1
  have ix := inW_of lx
  have iy := inW_of ly
  unfold bitsOf at e4
  rw [← e3] at e4 iy
  rw [← e1] at e4 iy
  have ep := rests_inj (pack_inj ix iy (by rw [List.length_map, List.length_map, List.length_map, List.length_map, e2]) e4)
  rw [ints_eq a1, ints_eq a2, ep]
theorem inj_deltas {xs ys : List V} (hx : PVs xs) (hy : PVs ys) (hn : deltasD xs ≠ .none) (h : deltasD xs = deltasD ys) : xs = ys := by
  have key : ∀ {zs : List V}, deltasD zs ≠ .none → (zs.isEmpty || !allInt zs) = false := fun {zs} hn => by
    unfold deltasD at hn
    cases h : (zs.isEmpty || !allInt zs) with
    | false => rfl
    | true => rw [h] at hn; exact absurd rfl hn
  have a1 := key hn
  have a2 := key (h ▸ hn)
  unfold deltasD at h
  rw [if_neg (by rw [a1]; decide), if_neg (by rw [a2]; decide)] at h
  rw [Bool.or_eq_false_iff, Bool.not_eq_false'] at a1 a2
  have h1 := List.cons.inj (List.cons.inj (PyData.tuple.inj h)).2
  have h2 := List.cons.inj h1.2
  have h3 := List.cons.inj h2.2
  have h4 := List.cons.inj h3.2
  have h5 := List.cons.inj h4.2
  have first : ∀ {zs : List V}, zs.isEmpty = false → allInt zs = true → vD (zs.headD .non) = .int ((zs.map zOf).getD 0 0) := fun {zs} h0 hi => by
    have e := ints_eq hi
    cases zs with
    | nil => exact nomatch h0
    | cons x r => rw [e]; rfl
  have lx := low_min (ns := stepsOf (xs.map zOf)) (steps_in (ints_in hx))
  have ly := low_min (ns := stepsOf (ys.map zOf)) (steps_in (ints_in hy))
  have e0 : (xs.map zOf).getD 0 0 = (ys.map zOf).getD 0 0 := by
    have := h1.1
    rw [first a1.1 a1.2, first a2.1 a2.2] at this
    exact PyData.int.inj this
  have e1 : foldD min 0 (stepsOf (xs.map zOf)) = foldD min 0 (stepsOf (ys.map zOf)) := PyData.int.inj h2.1
  have e2 : xs.length = ys.length := Int.ofNat.inj (PyData.int.inj h3.1)
  have e3 : widthOf (foldD min 0 (stepsOf (xs.map zOf))) (stepsOf (xs.map zOf)) = widthOf (foldD min 0 (stepsOf (ys.map zOf))) (stepsOf (ys.map zOf)) := Int.ofNat.inj (PyData.int.inj h4.1)
  have e4 : bitsOf (foldD min 0 (stepsOf (xs.map zOf))) (stepsOf (xs.map zOf)) = bitsOf (foldD min 0 (stepsOf (ys.map zOf))) (stepsOf (ys.map zOf)) := PyData.int.inj h5.1
  have ix := inW_of lx
  have iy := inW_of ly
  unfold bitsOf at e4
  rw [← e3] at e4 iy
  rw [← e1] at e4 iy
  have sl : ∀ zs : List V, (stepsOf (zs.map zOf)).length = zs.length - 1 := fun zs => by unfold stepsOf; rw [List.length_map, List.length_range, List.length_map]
  have ep := rests_inj (pack_inj ix iy (by rw [List.length_map, List.length_map, sl, sl, e2]) e4)
  rw [ints_eq a1.2, ints_eq a2.2]
  congr 1
  apply List.ext_getElem?
  intro j
  by_cases hj : j < xs.length
  · have d1 := delta_back (ns := xs.map zOf) (l := 0) j (by rw [List.length_map]; exact hj)
    have d2 := delta_back (ns := ys.map zOf) (l := 0) j (by rw [List.length_map]; omega)
    rw [ep, e0, d2] at d1
    rw [List.getD_eq_getElem?_getD, List.getD_eq_getElem?_getD] at d1
    rw [List.getElem?_eq_getElem (show j < (ys.map zOf).length by rw [List.length_map]; omega), List.getElem?_eq_getElem (show j < (xs.map zOf).length by rw [List.length_map]; exact hj)] at d1 ⊢
    exact congrArg some d1.symm
  · rw [List.getElem?_eq_none (by rw [List.length_map]; omega), List.getElem?_eq_none (by rw [List.length_map]; omega)]
/-- the same data of a form: the same values -/
theorem inj_form {fm : Str} {d : List V → PyData} (h : FormD fm d) {xs ys : List V} (hx : PVs xs) (hy : PVs ys) (hn : d xs ≠ .none) (he : d xs = d ys) : xs = ys := by
  cases h with
  | plain => exact inj_plain hx hy he
  | constant => exact inj_const hx hy hn he
  | runs => exact inj_runs hx hy he
  | dictionary => exact inj_dict hx hy he
  | packed => exact inj_packed hx hy hn he
  | deltas => exact inj_deltas hx hy hn he

/-! ### two data alike: the same tuples, the same values -/
theorem cal_no {P : Program} {w : World} {K : PySem.W.Frag} {mg : Str → Option Value} {base : Heap} {x : Str} {st : Stmt} {N ps : List Str} {k : Nat} {sp : Sp} (D : Dn K mg x st ps) (S : FnScope N ps (C8.fnScope st)) (no : ∀ vs H Q E, sp vs H Q E → False) : C8.Cal P w K mg base (k + 1) x sp [] :=
  cal_of D S (fun vs H Q E h => (no vs H Q E h).elim) fun f cdv A outer s H vs Q E hr h => (no vs H Q E h).elim
theorem tx_sqT {K : PySem.W.Frag} {H : Hp} {a : Addr} {xs : List V} (h : SqT K H a xs) : TyX K H (.ref a) (.type "tuple") := by
  rcases h with (h | ⟨o, h⟩) | ⟨o, its, n, h, hc, _⟩
  · exact .base (.tup h)
  · exact .fTuple h
  · exact .kTuple h hc
def EvB (te : TE) (σ : L2.St) (H : Hp) (R : Bool → Prop) : Prop := ∀ H1, Ex H H1 → ∀ Q : VK, (∀ b H2, R b → Ex H1 H2 → Q (.bl b) H2) → te σ H1 Q
def BlsP (n : Nat) (R : Nat → Bool → Prop) (zs : List V) : Prop := ∃ bs : List Bool, zs = bs.map V.bl ∧ bs.length = n ∧ ∀ i b, bs[i]? = some b → R i b
def EvLZ (te : TE) (σ : L2.St) (H : Hp) (P : List V → Prop) : Prop := ∀ H1, Ex H H1 → ∀ Q : VK, (∀ p H2 xs, H1 p = none → Ex H1 H2 → H2 p = some (.lst xs) → P xs → Q (.ref p) H2) → te σ H1 Q
section
variable {K : PySem.W.Frag} {σ : L2.St} {H : Hp} {ta tb te : TE} {D : Ends} {tz : TS}
theorem s_retB {R : Bool → Prop} (h : EvB te σ H R) (k : ∀ b H1, R b → Ex H H1 → D.rt (.bl b) H1) : tRet te D σ H := h H (Ex.refl H) _ k
theorem el_zipT {a b : Addr} {xs ys : List V} {i j : Nat} {vs : List Nat} (R : Nat → Bool → Prop) (ha : Ev ta σ H (.ref a)) (hb : Ev tb σ H (.ref b)) (hx : SqT K H a xs) (hy : SqT K H b ys) (hl : xs.length = ys.length) (hz : xs.length ≤ 40000) (hw : ∀ x y, wipe (((wipe σ vs).set i (some x)).set j (some y)) vs = wipe σ vs)
    (he : ∀ (k : Nat) (x y : V) H1, Ex H H1 → xs[k]? = some x → ys[k]? = some y → EvB te (((wipe σ vs).set i (some x)).set j (some y)) H1 (R k)) :
    EvLZ (tLc (RZ.iZipA K (tCons ta (tCons tb tNil))) (gTup K 2 (gCons (gName i) (gCons (gName j) gNil))) tYes te vs) σ H (BlsP xs.length R) := fun H0 e0 Q q => ha H0 e0 _ fun H1 e1 => hb H1 (e0.trans e1) _ fun H2 e2 => by
  have x2 := (e0.trans e1).trans e2
  refine ⟨a, b, xs, ys, rfl, .inr ⟨ex_t x2 hx, ex_t x2 hy, fun Dl hD => ?_⟩⟩
  let Pv : Nat → Hp → Prop := fun k H' => Ex H2 H' ∧ ∃ bs : List Bool, H' Dl = some (.lst (bs.map V.bl)) ∧ bs.length = k ∧ ∀ i b, bs[i]? = some b → R i b
  refine ⟨fun k m H' => m = xs.length - k ∧ k ≤ xs.length ∧ Pv k H', ⟨xs.length, by simp, Nat.zero_le _, Ex.new hD, [], upd_same, rfl, fun i b h => by simp at h⟩, ?_⟩
  rintro k m H' ⟨rfl, hk, p1, bs, p3, p4, p5⟩
  by_cases hlt : k < xs.length
  · have hlt2 : k < ys.length := by omega
    refine .inr ⟨⟨xs, ys, xs[k], ys[k], ex_t (x2.trans p1) hx, ex_t (x2.trans p1) hy, List.getElem?_eq_getElem hlt, List.getElem?_eq_getElem hlt2⟩, Pv (k + 1), fun H'' p' => ⟨xs.length - (k + 1), by omega, rfl, hlt, p'⟩, fun v H3 y => ?_⟩
    obtain ⟨T, x', y', rfl, hT, rfl, hx', hy'⟩ := y
    have ex := hx' xs (ex_t (x2.trans p1) hx)
    have ey := hy' ys (ex_t (x2.trans p1) hy)
    have e3 : Ex H' (upd H' T (.tup [x', y'])) := Ex.new hT
    refine gt2 (st_of upd_same) ⟨hw x' y', ?_⟩
    refine he k x' y' _ ((x2.trans p1).trans e3) ex ey _ (Ex.refl _) _ fun r H4 hr e4 => ⟨bs.map V.bl, (e3.trans e4) _ _ p3, sz_lt (by rw [List.length_map]; omega), Ex.mut ((p1.trans e3).trans e4) hD, bs ++ [r], ?_, by rw [List.length_append, p4]; rfl, fun i2 b2 h2 => ?_⟩
    · rw [upd_same, List.map_append]
      rfl
    · by_cases hi2 : i2 < bs.length
      · rw [List.getElem?_append_left hi2] at h2
        exact p5 _ _ h2
      · rw [List.getElem?_append_right (by omega)] at h2
        have e5 : i2 - bs.length = 0 := by
          cases h6 : i2 - bs.length with
          | zero => rfl
          | succ n => rw [h6] at h2; simp at h2
        rw [e5] at h2
        have e6 : i2 = k := by omega
        rw [e6]
        cases h2
        exact hr
  · have hkk : k = xs.length := by omega
    have hD0 : H0 Dl = none := fresh_back (e1.trans e2) hD
    exact .inl ⟨⟨xs, ys, ex_t (x2.trans p1) hx, ex_t (x2.trans p1) hy, .inl (by omega)⟩, q Dl H' _ hD0 ((e1.trans e2).trans p1) p3 ⟨bs, rfl, by omega, p5⟩⟩
end
/-- data of tuples and values, up to a depth -/
def Bt : Nat → PyData → Prop
  | 0, d => ∃ x, Ok x ∧ d = vD x
  | n + 1, d => (∃ x, Ok x ∧ d = vD x) ∨ ∃ ds, d = .tuple ds ∧ ds.length ≤ 1000 ∧ ∀ z ∈ ds, Bt n z
theorem leaf_ne {x : V} {ds : List PyData} : vD x ≠ .tuple ds := by cases x <;> intro h <;> cases h
theorem same_iff {x y : V} (hx : Ok x) (hy : Ok y) : PyData.eqv (rkD x) (rkD y) = true ↔ vD x = vD y := by
  constructor
  · intro h
    rw [same_eq hx hy h]
  · intro h
    have e : x = y := by
      cases hx <;> cases hy <;> simp [vD] at h <;> first | rfl | (subst h; rfl)
    subst e
    exact PySem.SeqAt.eqv_refl _ (lay_rk hx)
def spR__are_alike : Nat → PySem.W.Frag → Sp
  | 0, _ => fun _ _ _ _ => False
  | n + 1, K => fun vs H Q _ => ∃ (x y : V) (d e : PyData), vs = [x, y] ∧ Dp K H x d ∧ Dp K H y e ∧ Bt n d ∧ Bt n e ∧ ∀ b H', (b = true ↔ d = e) → Ex H H' → Q (.bl b) H'
def sp__are_alike (K : PySem.W.Frag) : Sp := spR__are_alike 4 K
section
variable {P : Program} {w : World} {K : PySem.W.Frag} {mg : Str → Option Value} {base : Heap}
theorem Bt.split {n : Nat} {d : PyData} (h : Bt n d) : (∃ x, Ok x ∧ d = vD x) ∨ ∃ m ds, n = m + 1 ∧ d = .tuple ds ∧ ds.length ≤ 1000 ∧ ∀ z ∈ ds, Bt m z := by
  cases n with
  | zero => exact .inl h
  | succ n =>
    rcases h with h | ⟨ds, h1, h2, h3⟩
    · exact .inl h
    · exact .inr ⟨n, ds, rfl, h1, h2, h3⟩
theorem tyN_leaf {x : V} (h : Ok x) : kitB (tyN x) "tuple" = some false := by
  cases h with
  | non => decide +kernel
  | bl b => show kitB "bool" "tuple" = some false; decide +kernel
  | int i => show kitB "int" "tuple" = some false; decide +kernel
  | str s _ => show kitB "str" "tuple" = some false; decide +kernel
theorem ev_isT {σ : L2.St} {H : Hp} {ta : TE} {x : V} {d : PyData} {n : Nat} (ha : Ev ta σ H x) (hd : Dp K H x d) (hb : Bt n d) : ∃ b, (b = true → ∃ ds, d = .tuple ds) ∧ (b = false → Ok x ∧ d = vD x) ∧ Ev (tCB (rIsi K) (tCons ta (tCons (tC (.ty "tuple")) tNil))) σ H (.bl b) := by
  rcases hb.split with ⟨y, hy, rfl⟩ | ⟨m, ds, _, rfl, _⟩
  · have e := dp_plain hd hy.pl
    subst e
    exact ⟨false, (fun h => nomatch h), (fun _ => ⟨hy, rfl⟩), ev_isiP ha hy.pl (tyN_leaf hy)⟩
  · obtain ⟨b, ys, rfl, hS, _⟩ := dp_tupD hd
    exact ⟨true, (fun _ => ⟨ds, rfl⟩), (fun h => nomatch h), ev_isi' (T := "tuple") (tn := "tuple") (b := true) ha (fun H1 e => tx_sqT (ex_t e hS)) (by decide +kernel)⟩
theorem ev_ex {σ : L2.St} {H H' : Hp} {te : TE} {v : V} (e : Ex H H') (h : Ev te σ H v) : Ev te σ H' v := fun H1 e1 => h H1 (e.trans e1)
theorem eb_all {σ : L2.St} {H : Hp} {ta : TE} {n : Nat} {R : Nat → Bool → Prop} (h : EvLZ ta σ H (BlsP n R)) : EvB (tCB (rAll K) (tCons ta tNil)) σ H (fun b => ∃ bs : List Bool, b = bs.all id ∧ bs.length = n ∧ ∀ i r, bs[i]? = some r → R i r) := fun H1 e Q q =>
  h H1 e _ fun p H2 xs _ e2 h2 ⟨bs, ex, hl, hr⟩ => by
    subst ex
    exact ⟨p, bs, rfl, sq_of h2, q _ H2 ⟨bs, rfl, hl, hr⟩ e2⟩
theorem ok__are_alike {rn : Nat} (D : Dn K mg "_are_alike" s__are_alike ["first", "second"]) (c_same : C8.Cal P w K mg base 3 "same" (sp_same K) []) (z_all : mg "all" = none) (z_isinstance : mg "isinstance" = none) (z_len : mg "len" = none) (z_tuple : mg "tuple" = none) (z_zip : mg "zip" = none) (c__are_alike : C8.Cal P w K mg base (4 + rn) "_are_alike" (spR__are_alike rn K) []) :
    C8.Cal P w K mg base (4 + rn + 1) "_are_alike" (spR__are_alike (rn + 1) K) [] := by
  refine cal_of D sc__are_alike (fun vs H Q E h => ?_) (fun f cdv A outer s H vs Q E hr h => ?_)
  · obtain ⟨_, _, _, _, rfl, _⟩ := h
    rfl
  refine ⟨_, (pss_cons (ps_if (PW.pt (pw_or (pt_not (pt_val (pe_callB call_isi (by rfl) z_isinstance (by decide +kernel) (pa_cons (pv 0) (pa_cons (pe_bltn (v := .ty "tuple") (u := .type "tuple") rfl z_tuple (by decide +kernel) rfl) pa_nil))))) (pw_or1 (pt_not (pt_val (pe_callB call_isi (by rfl) z_isinstance (by decide +kernel) (pa_cons (pv 1) (pa_cons (pe_bltn (v := .ty "tuple") (u := .type "tuple") rfl z_tuple (by decide +kernel) rfl) pa_nil))))))))
      (pss_one (ps_ret (pe_and (pe_not (pe_callB call_isi (by rfl) z_isinstance (by decide +kernel) (pa_cons (pv 0) (pa_cons (pe_bltn (v := .ty "tuple") (u := .type "tuple") rfl z_tuple (by decide +kernel) rfl) pa_nil)))) (pe_and (pe_not (pe_callB call_isi (by rfl) z_isinstance (by decide +kernel) (pa_cons (pv 1) (pa_cons (pe_bltn (v := .ty "tuple") (u := .type "tuple") rfl z_tuple (by decide +kernel) rfl) pa_nil)))) (pe_one (C8.pe_c c_same hr (by omega) (by rfl) (pa_cons (pv 0) (pa_cons (pv 1) pa_nil))))))))
      pss_nil)
    (pss_cons (ps_if (pt_cmpR op_ne (pe_callB call_len_seq (by rfl) z_len PySem.boot_len (pa_cons (pv 0) pa_nil)) (pe_callB call_len_seq (by rfl) z_len PySem.boot_len (pa_cons (pv 1) pa_nil)) (nomark _))
      (pss_one (ps_ret pe_bl))
      pss_nil)
    (pss_one (ps_ret (pe_callB (cr_all rfl) (by rfl) z_all (by decide +kernel) (pa_cons (pe_lc (own := [("one", 2), ("other", 3)]) (g := gTup K 2 (gCons (gName 2) (gCons (gName 3) gNil))) (tt := tYes) rfl sc__are_alike.nd (RZ.pi_zipA (by rfl) z_zip (pa_cons (pv 0) (pa_cons (pv 1) pa_nil))) (blkOk_by (N := n__are_alike) (sc := C8.fnScope s__are_alike) (by decide +kernel)) (fun _ _ _ _ _ => pg_tup rfl (pgs_cons (pg_name (i := 2) sc__are_alike.nd rfl (Or.inl rfl)) (pgs_cons (pg_name (i := 3) sc__are_alike.nd rfl (Or.inl rfl)) pgs_nil))) (fun _ _ _ _ _ => pts_nil) (fun _ _ _ _ _ => (C8.pe_c c__are_alike hr (Nat.le_refl _) (by rfl) (pa_cons (pv 2) (pa_cons (pv 3) pa_nil))))) pa_nil)))))), ?_⟩
  obtain ⟨x, y, d, e, rfl, hd, he, bd, be, q⟩ := h
  obtain ⟨b1, t1, l1, ev1⟩ := ev_isT (K := K) (ta := tVar 0) (σ := start n__are_alike [x, y]) (H := H) (ev_var rfl) hd bd
  obtain ⟨b2, t2, l2, ev2⟩ := ev_isT (K := K) (ta := tVar 1) (σ := start n__are_alike [x, y]) (H := H) (ev_var rfl) he be
  refine q_when (b := !b1 || !b2) (et_or (et_not (et_B ev1)) fun _ => et_not (et_B ev2)) (fun hb H1 e1 => ?_) fun hb H1 e1 => ?_
  · refine s_ret (v := .bl (!b1 && (!b2 && PyData.eqv (rkD x) (rkD y)))) (ev_andV (ev_notV (ev_ex e1 ev1)) fun h1 => ev_andV (ev_notV (ev_ex e1 ev2)) fun h2 => ?_) fun H2 e2 => q _ H2 ?_ (e1.trans e2)
    · have k1 : b1 = false := by cases b1; rfl; exact nomatch h1
      have k2 : b2 = false := by cases b2; rfl; exact nomatch h2
      exact ec_same (ev_var rfl) (ev_var rfl) (l1 k1).1 (l2 k2).1
    · cases b1 with
      | true =>
        cases b2 with
        | true => exact nomatch hb
        | false =>
          obtain ⟨ds, rfl⟩ := t1 rfl
          obtain ⟨_, rfl⟩ := l2 rfl
          exact ⟨(fun h => nomatch h), (fun h => absurd h.symm leaf_ne)⟩
      | false =>
        obtain ⟨o1, rfl⟩ := l1 rfl
        cases b2 with
        | true =>
          obtain ⟨es, rfl⟩ := t2 rfl
          exact ⟨(fun h => nomatch h), (fun h => absurd h leaf_ne)⟩
        | false =>
          obtain ⟨o2, rfl⟩ := l2 rfl
          exact same_iff o1 o2
  · cases b1 with
    | false => exact nomatch hb
    | true =>
    cases b2 with
    | false => exact nomatch hb
    | true =>
    obtain ⟨ds, rfl⟩ := t1 rfl
    obtain ⟨es, rfl⟩ := t2 rfl
    obtain ⟨a, xs, rfl, hS, hds⟩ := dp_tupD hd
    obtain ⟨b, ys, rfl, hT, hes⟩ := dp_tupD he
    have lx := dps_len hds
    have ly := dps_len hes
    refine q_when (b := !decide (V.int (xs.length : Int) = V.int (ys.length : Int))) (et_test (ev_op (ev_lenT (ev_var rfl) (ex_t e1 hS)) (ev_lenT (ev_var rfl) (ex_t e1 hT)) (rv_ne rfl))) (fun hb2 H2 e2 => ?_) fun hb2 H2 e2 => ?_
    · refine s_ret (v := .bl false) ev_c fun H3 e3 => q false H3 ⟨(fun h => nomatch h), fun h => ?_⟩ ((e1.trans e2).trans e3)
      have h4 := congrArg List.length (PyData.tuple.inj h)
      have h5 : (xs.length : Int) = (ys.length : Int) := by rw [lx, ly, h4]
      rw [decide_eq_true (by rw [h5])] at hb2
      exact nomatch hb2
    · have hl : xs.length = ys.length := by
        cases h : decide (V.int (xs.length : Int) = V.int (ys.length : Int)) with
        | true => have := V.int.inj (of_decide_eq_true h); omega
        | false => rw [h] at hb2; exact nomatch hb2
      have x2 := e1.trans e2
      rcases bd.split with ⟨x0, _, hx0⟩ | ⟨m, ds', hm, hds', hdl, hdz⟩
      · exact absurd hx0.symm leaf_ne
      subst hm
      cases hds'
      rcases be.split with ⟨x0, _, hx0⟩ | ⟨m', es', hm', hes', hel, hez⟩
      · exact absurd hx0.symm leaf_ne
      cases hm'
      cases hes'
      refine s_retB (eb_all (el_zipT (fun k b => b = true ↔ ds[k]? = es[k]?) (ev_var rfl) (ev_var rfl) (ex_t x2 hS) (ex_t x2 hT) hl (by omega) (fun _ _ => rfl) fun k x' y' H3 e3 hx hy => ?_)) fun r H3 ⟨bs, hr, hbl, hbs⟩ e3 => q r H3 ?_ (x2.trans e3)
      · obtain ⟨d', hd', dd'⟩ := dps_get hds hx
        obtain ⟨e', he', ee'⟩ := dps_get hes hy
        rw [hd', he']
        exact fun H4 e4 Q k => ⟨x', rfl, y', rfl, x', y', d', e', rfl, ex_dp ((x2.trans e3).trans e4) dd', ex_dp ((x2.trans e3).trans e4) ee', hdz _ (List.mem_of_getElem? hd'), hez _ (List.mem_of_getElem? he'), fun b H5 hb5 e5 => k b H5 (show b = true ↔ some d' = some e' by rw [hb5, Option.some.injEq]) e5⟩
      · subst hr
        rw [List.all_eq_true]
        constructor
        · intro hall
          congr 1
          apply List.ext_getElem?
          intro k
          by_cases hk : k < bs.length
          · have h6 := hbs k _ (List.getElem?_eq_getElem hk)
            exact h6.mp (hall _ (List.getElem_mem hk))
          · rw [List.getElem?_eq_none (by omega), List.getElem?_eq_none (by omega)]
        · intro h b hb
          have h7 := PyData.tuple.inj h
          obtain ⟨k, hk, ek⟩ := List.getElem_of_mem hb
          have h6 := hbs k b (by rw [List.getElem?_eq_getElem hk, ek])
          exact h6.mpr (by rw [h7])
end

/-! ### the class Encoded -/
theorem range_map {α : Type} {xs : List V} (f : V → α) : (List.range xs.length).map (fun i => f (xs.getD i .non)) = xs.map f := by
  apply List.ext_getElem?
  intro i
  rw [List.getElem?_map, List.getElem?_map]
  by_cases h : i < xs.length
  · rw [List.getElem?_range h, List.getElem?_eq_getElem h]
    show some (f (xs.getD i .non)) = some (f xs[i])
    rw [List.getD_eq_getElem?_getD, List.getElem?_eq_getElem h]
    rfl
  · rw [List.getElem?_eq_none (by rw [List.length_range]; omega), List.getElem?_eq_none (by omega)]
    rfl
theorem form_tup {fm : Str} {d : List V → PyData} (h : FormD fm d) (xs : List V) : d xs = .none ∨ ∃ ds, d xs = .tuple ds := by
  cases h with
  | plain => exact .inr ⟨_, rfl⟩
  | constant => unfold constD; split; exact .inl rfl; exact .inr ⟨_, rfl⟩
  | runs => exact .inr ⟨_, rfl⟩
  | dictionary => exact .inr ⟨_, rfl⟩
  | packed => unfold packedD; split; exact .inl rfl; exact .inr ⟨_, rfl⟩
  | deltas => unfold deltasD; split; exact .inl rfl; exact .inr ⟨_, rfl⟩
def encF (n : Nat) (mv bv : V) : List (Str × V) := putF "body" bv (putF "mask" mv (putF "length" (.int (n : Int)) []))
theorem encF_len {n : Nat} {mv bv : V} : (encF n mv bv).lookup ("length" : Str) = some (.int (n : Int)) := by
  unfold encF
  rw [lookup_putF, if_neg (by decide +kernel), lookup_putF, if_neg (by decide +kernel), lookup_putF, if_pos rfl]
theorem encF_mask {n : Nat} {mv bv : V} : (encF n mv bv).lookup ("mask" : Str) = some mv := by
  unfold encF
  rw [lookup_putF, if_neg (by decide +kernel), lookup_putF, if_pos rfl]
theorem encF_body {n : Nat} {mv bv : V} : (encF n mv bv).lookup ("body" : Str) = some bv := by
  unfold encF
  rw [lookup_putF, if_pos rfl]
theorem encF_no {n : Nat} {mv bv : V} {m : Str} (h1 : ¬ m = "body") (h2 : ¬ m = "mask") (h3 : ¬ m = "length") : (encF n mv bv).lookup m = none := by
  unfold encF
  rw [lookup_putF, if_neg h1, lookup_putF, if_neg h2, lookup_putF, if_neg h3]
  rfl
theorem putF_le (f : Str) (v : V) : ∀ fs : List (Str × V), (putF f v fs).length ≤ fs.length + 1
  | [] => Nat.le_refl _
  | (g, x) :: r => by
    unfold putF
    split
    · show r.length + 1 ≤ r.length + 1 + 1
      omega
    · have := putF_le f v r
      show (putF f v r).length + 1 ≤ r.length + 1 + 1
      omega
def maskAt (H : Hp) (mv : V) : Option (List Bool) → Prop
  | none => mv = .non
  | some bs => ∃ pm, mv = .ref pm ∧ H pm = some (.lst (bs.map V.bl))
theorem maskAt.ex {H H' : Hp} {mv : V} {mk : Option (List Bool)} (h : maskAt H mv mk) (e : Ex H H') : maskAt H' mv mk := by
  cases mk with
  | none => exact h
  | some bs =>
    obtain ⟨pm, h1, h2⟩ := h
    exact ⟨pm, h1, e _ _ h2⟩
def EncAt (K : PySem.W.Frag) (H : Hp) (p : Addr) (n : Nat) (mk : Option (List Bool)) (dt : PyData) : Prop := ∃ dx mv bv, H p = some (.ins (clsAt K "Encoded") dx (encF n mv bv)) ∧ maskAt H mv mk ∧ Dp K H bv dt
theorem EncAt.ex {K : PySem.W.Frag} {H H' : Hp} {p : Addr} {n : Nat} {mk : Option (List Bool)} {dt : PyData} (h : EncAt K H p n mk dt) (e : Ex H H') : EncAt K H' p n mk dt := by
  obtain ⟨dx, mv, bv, h1, h2, h3⟩ := h
  exact ⟨dx, mv, bv, e _ _ h1, h2.ex e, ex_dp e h3⟩
/-- .. whose mask is new since H0 -/
def EncF (K : PySem.W.Frag) (H0 H : Hp) (p : Addr) (n : Nat) (mk : Option (List Bool)) (dt : PyData) : Prop := ∃ dx mv bv, H p = some (.ins (clsAt K "Encoded") dx (encF n mv bv)) ∧ maskAt H mv mk ∧ Dp K H bv dt ∧ ∀ q, mv = .ref q → H0 q = none
theorem EncF.at {K : PySem.W.Frag} {H0 H : Hp} {p : Addr} {n : Nat} {mk : Option (List Bool)} {dt : PyData} (h : EncF K H0 H p n mk dt) : EncAt K H p n mk dt := by
  obtain ⟨dx, mv, bv, h1, h2, h3, _⟩ := h
  exact ⟨dx, mv, bv, h1, h2, h3⟩
theorem EncF.back {K : PySem.W.Frag} {H0 H1 H : Hp} {p : Addr} {n : Nat} {mk : Option (List Bool)} {dt : PyData} (h : EncF K H1 H p n mk dt) (e : Ex H0 H1) : EncF K H0 H p n mk dt := by
  obtain ⟨dx, mv, bv, h1, h2, h3, h4⟩ := h
  exact ⟨dx, mv, bv, h1, h2, h3, fun q hq => fresh_back e (h4 q hq)⟩
theorem upd_no {H : Hp} {p q : Addr} {o : HO} (h : upd H p o q = none) : q ≠ p ∧ H q = none := by
  have hq : q ≠ p := fun z => by rw [z, upd_same] at h; cases h
  exact ⟨hq, by rw [upd_ne hq] at h; exact h⟩
def pres (xs : List V) : List V := xs.filter fun x => !decide (x = .non)
def maskOf (xs : List V) : Option (List Bool) := if (pres xs).length < xs.length then some (xs.map fun x => decide (x = .non)) else none
def VVs (xs : List V) : Prop := (∀ x ∈ xs, DV x) ∧ xs.length ≤ 41 ∧ (pres xs).length ≤ 40
theorem pres_pv {xs : List V} (h : VVs xs) : PVs (pres xs) := by
  refine ⟨fun x hx => ?_, h.2.2⟩
  have := List.mem_filter.mp hx
  exact ⟨h.1 x this.1, fun z => by rw [z] at this; exact nomatch this.2⟩
theorem given_filter {xs : List V} {g : V → Bool} : given xs.length (fun i => g (xs.getD i .non)) (fun i => xs.getD i .non) = xs.filter g := by
  have e : xs = (List.range xs.length).map (fun i => xs.getD i .non) := by
    have := range_map (xs := xs) fun x => x
    rw [List.map_id'] at this
    exact this.symm
  conv => rhs; rw [e]
  rw [List.filter_map]
  rfl
theorem form_head {fm : Str} {d : List V → PyData} (h : FormD fm d) {xs : List V} (hn : d xs ≠ .none) : ∃ ds, d xs = .tuple (.str fm :: ds) := by
  cases h with
  | plain => exact ⟨_, rfl⟩
  | constant => unfold constD at hn ⊢; split; rename_i hc; rw [if_pos hc] at hn; exact absurd rfl hn; exact ⟨_, rfl⟩
  | runs => exact ⟨_, rfl⟩
  | dictionary => exact ⟨_, rfl⟩
  | packed => unfold packedD at hn ⊢; split; rename_i hc; rw [if_pos hc] at hn; exact absurd rfl hn; exact ⟨_, rfl⟩
  | deltas => unfold deltasD at hn ⊢; split; rename_i hc; rw [if_pos hc] at hn; exact absurd rfl hn; exact ⟨_, rfl⟩
theorem pres_app (a b : List V) : pres (a ++ b) = pres a ++ pres b := List.filter_append ..
theorem pres_one {x : V} (h : ¬ x = .non) : pres [x] = [x] := by
  unfold pres
  rw [List.filter_cons_of_pos (by rw [decide_eq_false h]; rfl)]
  rfl
theorem pres_non : pres [V.non] = [] := rfl
theorem pres_snoc {xs : List V} {i : Nat} {x : V} (h : xs[i]? = some x) : xs.take (i + 1) = xs.take i ++ [x] := by
  rw [List.take_add_one, h]
  rfl
theorem pres_get {xs : List V} {i : Nat} {x : V} (h : xs[i]? = some x) (hn : ¬ x = .non) : (pres xs)[(pres (xs.take i)).length]? = some x := by
  have e : xs = xs.take i ++ x :: xs.drop (i + 1) := by
    have := List.take_append_drop i xs
    have h2 := (List.getElem?_eq_some_iff.mp h)
    rw [List.drop_eq_getElem_cons h2.1, h2.2] at this
    exact this.symm
  have e2 : pres xs = pres (xs.take i) ++ ([x] ++ pres (xs.drop (i + 1))) := by
    conv => lhs; rw [e]
    rw [pres_app, show x :: xs.drop (i + 1) = [x] ++ xs.drop (i + 1) from rfl, pres_app, pres_one hn]
  rw [e2, List.getElem?_append_right (Nat.le_refl _), Nat.sub_self]
  rfl
def sp_Encoded____init__ (K : PySem.W.Frag) : Sp := fun vs H Q _ => ∃ (p dx : Addr) (n : Nat) (mv bv : V) (mk : Option (List Bool)), vs = [.ref p, .int (n : Int), mv, bv] ∧ H p = some (.ins (clsAt K "Encoded") dx []) ∧ maskAt H mv mk ∧ ∀ H' mv', Ex (wo p H) H' → H' p = some (.ins (clsAt K "Encoded") dx (encF n mv' bv)) → maskAt H' mv' mk → (∀ q, mv' = .ref q → H q = none) → Q .non H'
def sp_Encoded__form (K : PySem.W.Frag) : Sp := fun vs H Q _ => ∃ (p : Addr) (fm : Str) (d : List V → PyData) (n : Nat) (mk : Option (List Bool)) (xs : List V), vs = [.ref p] ∧ FormD fm d ∧ EncAt K H p n mk (d xs) ∧ d xs ≠ .none ∧ ∀ H', Ex H H' → Q (.str fm) H'
def sp_Encoded__decoded (K : PySem.W.Frag) : Sp := fun vs H Q _ => ∃ (p : Addr) (fm : Str) (d : List V → PyData) (xs : List V), vs = [.ref p] ∧ FormD fm d ∧ EncAt K H p xs.length (maskOf xs) (d (pres xs)) ∧ d (pres xs) ≠ .none ∧ VVs xs ∧ ∀ p H', H p = none → Ex H H' → H' p = some (.lst xs) → Q (.ref p) H'
def sp_encode_as (K : PySem.W.Frag) : Sp := fun vs H Q _ => ∃ (fm : Str) (d : List V → PyData) (a : Addr) (xs : List V), vs = [.str fm, .ref a] ∧ FormD fm d ∧ SqL K H a xs ∧ VVs xs ∧ (d (pres xs) = .none → ∀ H', Ex H H' → Q .non H') ∧ (d (pres xs) ≠ .none → ∀ p H', H p = none → Ex H H' → EncF K H H' p xs.length (maskOf xs) (d (pres xs)) → Q (.ref p) H')
section
variable {K : PySem.W.Frag} {σ : L2.St} {H : Hp} {ta tb tc te tv : TE} {tr : TA} {t : TT} {D : Ends} {tz : TS} {p C dx a : Addr} {fs : List (Str × V)} {f : Str} {v : V} {xs : List V} {d : PyData} {E : XK}
theorem ev_fld (ha : Ev ta σ H (.ref p)) (hp : H p = some (.ins C dx fs)) (c : Cls K C) (n : NoAttr K C f) (l : fs.lookup f = some v) : Ev (tFld K ta f) σ H v := fun H1 e Q q => ha H1 e _ fun H2 e2 => ⟨p, C, dx, fs, v, rfl, (e.trans e2) _ _ hp, c, n, l, q H2 e2⟩
theorem s_fld (hv : Ev tv σ H v) (ha : ∀ H1, Ex H H1 → Ev ta σ H1 (.ref p)) (hp : H p = some (.ins C dx fs)) (c : Cls K C) (n : NoAttr K C f) (hl : fs.length < 1000) (k : ∀ H1, Ex H H1 → D.nx σ (upd H1 p (.ins C dx (putF f v fs)))) : sFld K ta tv f D σ H :=
  hv H (Ex.refl H) _ fun H1 e1 => ha H1 e1 H1 (Ex.refl H1) _ fun H2 e2 => ⟨p, C, dx, fs, rfl, (e1.trans e2) _ _ hp, c, n, hl, k H2 (e1.trans e2)⟩
theorem q_fld (hv : Ev tv σ H v) (ha : ∀ H1, Ex H H1 → Ev ta σ H1 (.ref p)) (hp : H p = some (.ins C dx fs)) (c : Cls K C) (n : NoAttr K C f) (hl : fs.length < 1000) (k : ∀ H1, Ex H H1 → tz D σ (upd H1 p (.ins C dx (putF f v fs)))) : tSeq (sFld K ta tv f) tz D σ H := s_fld (D := { D with nx := tz D }) hv ha hp c n hl k
theorem q_fldL (hv : EvL tv σ H xs) (ha : ∀ H1, Ex H H1 → Ev ta σ H1 (.ref p)) (hp : H p = some (.ins C dx fs)) (c : Cls K C) (n : NoAttr K C f) (hl : fs.length < 1000) (k : ∀ l H1, H l = none → Ex H H1 → H1 l = some (.lst xs) → tz D σ (upd H1 p (.ins C dx (putF f (.ref l) fs)))) : tSeq (sFld K ta tv f) tz D σ H :=
  hv H (Ex.refl H) _ fun l H1 hl1 e1 h1 => ha H1 e1 H1 (Ex.refl H1) _ fun H2 e2 => ⟨p, C, dx, fs, rfl, (e1.trans e2) _ _ hp, c, n, hl, k l H2 hl1 (e1.trans e2) (e2 _ _ h1)⟩
theorem el_ifF (h : EvT t σ H false) (h2 : EvL tb σ H xs) : EvL (tIf t ta tb) σ H xs := fun H1 e Q q => h H1 e _ fun H2 e2 => h2 H2 (e.trans e2) Q fun p H3 hp e3 h3 => q p H3 (fresh_back e2 hp) (e2.trans e3) h3
theorem q_ext {l : Addr} {ys : List V} (hl : H l = some (.lst xs)) (ha : Ev ta σ H (.ref l)) (h : EvL te σ H ys) (hz : xs.length + ys.length ≤ 100000) (k : ∀ H1, Ex H H1 → tz D σ (upd H1 l (.lst (xs ++ ys)))) :
    tSeq (tDrop (tBM K "list" rExtend ta (tCons te tNil))) tz D σ H := s_ext (D := { D with nx := tz D }) hl ha h hz k
theorem q_asgD {i : Nat} (h : EvD K te σ H d) (k : ∀ v H1, Ex H H1 → Dp K H1 v d → tz D (σ.set i (some v)) H1) : tSeq (tAsg te (gName i)) tz D σ H := h H (Ex.refl H) _ k
theorem ed_body {fm : Str} {dd : List V → PyData} (hf : FormD fm dd) (ha : Ev ta σ H (.str fm)) (hb : Ev tb σ H (.ref a)) (hS : SqL K H a xs) (hx : PVs xs) : EvD K (tCall (sp_body_of K) [] E (tCons ta (tCons tb tNil))) σ H (dd xs) := fun H1 e Q q =>
  ha H1 e _ fun H2 e2 => hb H2 (e.trans e2) _ fun H3 e3 => ⟨fm, dd, a, xs, rfl, hf, ex_l ((e.trans e2).trans e3) hS, hx, fun v H' e' hd => q v H' ((e2.trans e3).trans e') hd⟩
theorem el_values {v : V} {fm : Str} {dd : List V → PyData} (hf : FormD fm dd) (hn : dd xs ≠ .none) (ha : Ev ta σ H v) (hd : Dp K H v (dd xs)) (hx : PVs xs) : EvL (tCall (sp_values_of K) [] E (tCons ta tNil)) σ H xs := fun H1 e Q q =>
  ha H1 e _ fun H2 e2 => ⟨v, fm, dd, xs, rfl, hf, ex_dp (e.trans e2) hd, hn, hx, fun p H' hp e' h' => q p H' (fresh_back e2 hp) (e2.trans e') h'⟩
theorem s_retMake {n : Nat} {mv bv : V} {mk : Option (List Bool)} {dt : PyData} (ha : EvA tr σ H [.int (n : Int), mv, bv]) (hm : maskAt H mv mk) (hd : Dp K H bv dt) (k : ∀ p H', H p = none → Ex H H' → EncF K H H' p n mk dt → D.rt (.ref p) H') : tRet (tMake (clsAt K "Encoded") (sp_Encoded____init__ K) [] C8.E0 tr) D σ H :=
  ha H (Ex.refl H) _ fun H1 e1 => fun x dx hx hdx ne => by
    have up : Ex H1 (wo x (upd (upd H1 dx (.own x)) x (.ins (clsAt K "Encoded") dx []))) := fun b o hb => by
      have nb : b ≠ x := fun z => by rw [z, hx] at hb; cases hb
      have nd : b ≠ dx := fun z => by rw [z, hdx] at hb; cases hb
      rw [wo_ne nb, upd_ne nb, upd_ne nd]
      exact hb
    refine ⟨x, dx, n, mv, bv, mk, rfl, upd_same, (hm.ex e1).ex (up.trans (wo_le _ _)), fun H' mv' e' h' hm' hn' => ⟨rfl, ?_⟩⟩
    have ef : Ex H H' := e1.trans (up.trans e')
    exact k x H' (fresh_back e1 hx) ef ⟨dx, mv', bv, h', hm', ex_dp ef hd, fun q hq => fresh_back e1 (upd_no (upd_no (hn' q hq)).2).2⟩
end
section
variable {P : Program} {w : World} {K : PySem.W.Frag} {mg : Str → Option Value} {base : Heap}
theorem ok_Encoded____init__ (D : MetD K "Encoded" "__init__" "Encoded.__init__" s_Encoded____init__ ["self", "length", "mask", "body"]) (C_Encoded : ClsD K mg "Encoded" ["length", "mask", "body"]) (I_Encoded : OwnI K "Encoded") (z_list : mg "list" = none) :
    C8.Mak P w K mg base 1 "Encoded" (clsAt K "Encoded") (sp_Encoded____init__ K) [] := by
  refine mak_of C_Encoded D sc_Encoded____init__ (fun vs H Q E h => ?_) (fun f cdv A outer s H vs Q E hr h => ?_)
  · obtain ⟨_, _, _, _, _, _, rfl, _⟩ := h
    rfl
  refine ⟨_, (pss_cons (ps_fld (pv 0) (pv 1) rfl)
    (pss_cons (ps_fld (pv 0) (pe_ifExp (pt_cmpR op_isN (pv 2) pe_non (nomark _)) pe_non (pe_callTy call_list_of (by rfl) z_list (by decide +kernel) (pa_cons (pv 2) pa_nil))) rfl)
    (pss_one (ps_fld (pv 0) (pv 3) rfl)))), ?_⟩
  obtain ⟨p, dx, n, mv, bv, mk, rfl, hp, hm, q⟩ := h
  have cl := C_Encoded.cl
  have l1 : (putF "length" (V.int (n : Int)) []).length < 1000 := Nat.lt_of_le_of_lt (putF_le _ _ _) (by decide)
  have l2 : ∀ m, (putF "mask" m (putF "length" (V.int (n : Int)) [])).length < 1000 := fun m => Nat.lt_of_le_of_lt (putF_le _ _ _) (Nat.lt_of_le_of_lt (Nat.succ_le_succ (putF_le _ _ _)) (by decide))
  refine q_fld (ev_var rfl) (fun _ _ => ev_var rfl) hp cl C_Encoded.na.1 (by decide) fun H1 e1 => ?_
  have xa : Ex (wo p H) (upd H1 p (.ins (clsAt K "Encoded") dx (putF "length" (.int (n : Int)) []))) := wx_mut (wx_of e1)
  cases mk with
  | none =>
    obtain rfl : mv = .non := hm
    refine q_fld (v := .non) (ev_if (b := true) (et_test (ev_op (ev_var rfl) ev_c rv_isN)) (fun _ => ev_c) fun h => nomatch h) (fun _ _ => ev_var rfl) upd_same cl C_Encoded.na.2.1 l1 fun H2 e2 => ?_
    refine s_fld (v := bv) (ev_var rfl) (fun _ _ => ev_var rfl) upd_same cl C_Encoded.na.2.2.1 (l2 _) fun H3 e3 => q _ .non ?_ upd_same rfl fun q h => nomatch h
    have xb : Ex (wo p H) (upd H2 p (.ins (clsAt K "Encoded") dx (putF "mask" .non (putF "length" (.int (n : Int)) [])))) := wx_mut (xa.trans e2)
    exact wx_mut (xb.trans e3)
  | some bs =>
    obtain ⟨pm, rfl, hpm⟩ := hm
    have npm : pm ≠ p := fun z => by rw [z, hp] at hpm; cases hpm
    have h1 : upd H1 p (.ins (clsAt K "Encoded") dx (putF "length" (.int (n : Int)) [])) pm = some (.lst (bs.map V.bl)) := by rw [upd_ne npm]; exact e1 _ _ hpm
    refine q_fldL (xs := bs.map V.bl) (el_ifF (et_test (ev_op (ev_var rfl) ev_c rv_isN)) (el_list (ev_var rfl) (sq_of h1))) (fun _ _ => ev_var rfl) upd_same cl C_Encoded.na.2.1 l1 fun l H2 hl e2 h2 => ?_
    have nl : l ≠ p := fun z => by rw [z, upd_same] at hl; cases hl
    refine s_fld (v := bv) (ev_var rfl) (fun _ _ => ev_var rfl) upd_same cl C_Encoded.na.2.2.1 (l2 _) fun H3 e3 => q _ (.ref l) ?_ upd_same ⟨l, rfl, ?_⟩ fun q h => by cases h; exact fresh_back e1 (upd_no hl).2
    · have xb : Ex (wo p H) (upd H2 p (.ins (clsAt K "Encoded") dx (putF "mask" (.ref l) (putF "length" (.int (n : Int)) [])))) := wx_mut (xa.trans e2)
      exact wx_mut (xb.trans e3)
    · rw [upd_ne nl]
      exact e3 _ _ (by rw [upd_ne nl]; exact h2)
theorem ok_Encoded__form (D : PrpD K "Encoded" "form" "Encoded.form" s_Encoded__form ["self"]) (C_Encoded : ClsD K mg "Encoded" ["length", "mask", "body"]) (I_Encoded : OwnI K "Encoded") :
    Prp P w K mg base 1 (clsAt K "Encoded") "form" (sp_Encoded__form K) := by
  refine prp_of C_Encoded D sc_Encoded__form (fun vs H Q E h => ?_) (fun f cdv A outer s H vs Q E hr h => ?_)
  · obtain ⟨_, _, _, _, _, _, rfl, _⟩ := h
    rfl
  refine ⟨_, (pss_one (ps_ret (pe_ix ix_tup (pe_fld (pv 0) (by rfl)) pe_int (fun _ _ => rfl)))), ?_⟩
  obtain ⟨p, fm, d, n, mk, xs, rfl, hf, ⟨dx, mv, bv, hp, hm, hd⟩, hn, q⟩ := h
  obtain ⟨ds, z⟩ := form_head hf hn
  rw [z] at hd
  obtain ⟨b, ys, rfl, hS, hds⟩ := dp_tupD hd
  cases hds with
  | cons h1 h2 =>
  obtain rfl := dp_strD h1
  exact s_ret (ev_op (ev_fld (ev_var rfl) hp C_Encoded.cl C_Encoded.na.2.2.1 encF_body) ev_c (rv_ixT hS (atI_nat (j := 0) rfl))) fun H1 e1 => q _ e1
theorem ok_encode_as (D : Dn K mg "encode_as" s_encode_as ["form", "values"]) (C_Encoded : ClsD K mg "Encoded" ["length", "mask", "body"]) (I_Encoded : OwnI K "Encoded") (c_Encoded____init__ : C8.Mak P w K mg base 1 "Encoded" (clsAt K "Encoded") (sp_Encoded____init__ K) []) (c_body_of : C8.Cal P w K mg base 5 "body_of" (sp_body_of K) []) (z_len : mg "len" = none) :
    C8.Cal P w K mg base 6 "encode_as" (sp_encode_as K) [] := by
  refine cal_of D sc_encode_as (fun vs H Q E h => ?_) (fun f cdv A outer s H vs Q E hr h => ?_)
  · obtain ⟨_, _, _, _, rfl, _⟩ := h
    rfl
  refine ⟨_, (pss_cons (ps_setLc (i := 2) (own := [("value", 5)]) (g := gName 5) rfl sc_encode_as.nd rfl rfl (sw_true rfl rfl rfl (by decide +kernel)) (pi_list (pv 1)) (blkOk_by (N := n_encode_as) (sc := C8.fnScope s_encode_as) (by decide +kernel)) (fun _ _ _ _ _ => pg_name (i := 5) sc_encode_as.nd rfl (Or.inl rfl)) (fun _ _ _ _ _ => (pts_one (pt_cmpR op_notN (pv 5) pe_non (nomark _)))) (fun _ _ _ _ _ => (pv 5)))
    (pss_cons (ps_set (i := 3) sc_encode_as.nd rfl (.inl rfl) (C8.pe_c c_body_of hr (by decide) (by rfl) (pa_cons (pv 0) (pa_cons (pv 2) pa_nil))))
    (pss_cons (ps_if (pt_cmpR op_isN (pv 3) pe_non (nomark _))
      (pss_one (ps_ret pe_non))
      pss_nil)
    (pss_cons (ps_set (i := 4) sc_encode_as.nd rfl (.inl rfl) pe_non)
    (pss_cons (ps_if (pt_cmpR op_lt (pe_callB call_len_seq (by rfl) z_len PySem.boot_len (pa_cons (pv 2) pa_nil)) (pe_callB call_len_seq (by rfl) z_len PySem.boot_len (pa_cons (pv 1) pa_nil)) (nomark _))
      (pss_one (ps_setLc (i := 4) (own := [("value", 5)]) (g := gName 5) (tt := tYes) rfl sc_encode_as.nd rfl rfl (sw_true rfl rfl rfl (by decide +kernel)) (pi_list (pv 1)) (blkOk_by (N := n_encode_as) (sc := C8.fnScope s_encode_as) (by decide +kernel)) (fun _ _ _ _ _ => pg_name (i := 5) sc_encode_as.nd rfl (Or.inl rfl)) (fun _ _ _ _ _ => pts_nil) (fun _ _ _ _ _ => (pe_cmpR op_isN (pv 5) pe_non (nomark _)))))
      pss_nil)
    (pss_one (ps_ret (C8.pe_mk c_Encoded____init__ hr (by decide) (by rfl) (pa_cons (pe_callB call_len_seq (by rfl) z_len PySem.boot_len (pa_cons (pv 1) pa_nil)) (pa_cons (pv 4) (pa_cons (pv 3) pa_nil))))))))))), ?_⟩
  obtain ⟨fm, d, a, xs, rfl, hf, hS, hx, q0, q1⟩ := h
  have hz := hx.2
  have getD_is : ∀ {i : Nat} {x : V}, xs[i]? = some x → xs.getD i .non = x := fun hi => by rw [List.getD_eq_getElem?_getD, hi]; rfl
  refine q_asgL (xs := pres xs) ?_ fun pp H1 hpp e1 h1 => ?_
  · unfold pres
    rw [← given_filter (g := fun x => !decide (x = .non))]
    refine el_lcL _ _ (ev_var rfl) hS (by omega) (fun _ => rfl) (fun i x H1 e1 hi => ?_) (fun i x H1 e1 hi _ => ?_)
    · rw [getD_is hi]
      walk_at "et"
    · rw [getD_is hi]
      exact ev_var rfl
  have hpv := pres_pv hx
  refine q_asgD (K := K) (ed_body hf (ev_var rfl) (ev_var rfl) (sq_of h1) hpv) fun vb H2 e2 hd => ?_
  have x2 := e1.trans e2
  rcases form_tup hf (pres xs) with z | ⟨ds, z⟩
  · rw [z] at hd
    cases hd
    exact q_when (b := true) (et_test (ev_op (ev_var rfl) ev_c rv_isN)) (fun _ H3 e3 => s_ret ev_c fun H4 e4 => q0 z H4 ((x2.trans e3).trans e4)) fun h => nomatch h
  · have hn : d (pres xs) ≠ .none := fun h => by rw [z] at h; cases h
    have hd' := hd
    rw [z] at hd'
    obtain ⟨b, ys, rfl, _, _⟩ := dp_tupD hd'
    refine q_when (b := false) (et_test (ev_op (ev_var rfl) ev_c rv_isN)) (fun h => nomatch h) fun _ H3 e3 => ?_
    refine q_asg (v := .non) ev_c fun H4 e4 => ?_
    have x4 := (x2.trans e3).trans e4
    have hd4 := ex_dp (e3.trans e4) hd
    refine q_when (b := decide ((((pres xs).length : Nat) : Int) < ((xs.length : Nat) : Int))) (et_test (ev_op (ev_len (ev_var rfl) (sq_of (((e2.trans e3).trans e4) _ _ h1))) (ev_len (ev_var rfl) (ex_l x4 hS)) rv_I0)) (fun hb H5 e5 => ?_) fun hb H5 e5 => ?_
    · have hlt : (pres xs).length < xs.length := by have := of_decide_eq_true hb; omega
      have hmk : maskOf xs = some (xs.map fun x => decide (x = .non)) := if_pos hlt
      refine s_asgL (xs := (xs.map fun x => decide (x = .non)).map V.bl) ?_ fun pm H6 hpm e6 h6 => ?_
      · rw [List.map_map]
        exact el_mapL (k := fun x => x) (ev_var rfl) (by rw [List.map_id']; exact ex_l (x4.trans e5) hS) (by omega) (fun _ => rfl) fun x H6 e6 hm => ev_op (ev_var rfl) ev_c rv_isN
      · have x6 := (x4.trans e5).trans e6
        exact s_retMake (mk := maskOf xs) (ea_cons (ev_len (ev_var rfl) (ex_l x6 hS)) (ea_cons (ev_var rfl) (ea_cons (ev_var rfl) ea_nil))) (by rw [hmk]; exact ⟨pm, rfl, h6⟩) (ex_dp (e5.trans e6) hd4) fun p H7 hp e7 hE => q1 hn p H7 (fresh_back x6 hp) (x6.trans e7) (hE.back x6)
    · have hlt : ¬ (pres xs).length < xs.length := by have := of_decide_eq_false hb; omega
      have hmk : maskOf xs = none := if_neg hlt
      have x5 := x4.trans e5
      exact s_retMake (mk := maskOf xs) (ea_cons (ev_len (ev_var rfl) (ex_l x5 hS)) (ea_cons (ev_var rfl) (ea_cons (ev_var rfl) ea_nil))) (by rw [hmk]; rfl) (ex_dp e5 hd4) fun p H7 hp e7 hE => q1 hn p H7 (fresh_back x5 hp) (x5.trans e7) (hE.back x5)
theorem ok_Encoded__decoded (D : MetD K "Encoded" "decoded" "Encoded.decoded" s_Encoded__decoded ["self"]) (C_Encoded : ClsD K mg "Encoded" ["length", "mask", "body"]) (I_Encoded : OwnI K "Encoded") (c_values_of : C8.Cal P w K mg base 2 "values_of" (sp_values_of K) []) :
    C8.Met P w K mg base 3 (clsAt K "Encoded") "decoded" (sp_Encoded__decoded K) [] := by
  refine met_of C_Encoded D sc_Encoded__decoded (fun vs H Q E h => ?_) (fun f cdv A outer s H vs Q E hr h => ?_)
  · obtain ⟨_, _, _, _, rfl, _⟩ := h
    rfl
  refine ⟨_, (pss_cons (ps_set (i := 1) sc_Encoded__decoded.nd rfl (.inl rfl) (C8.pe_c c_values_of hr (by decide) (by rfl) (pa_cons (pe_fld (pv 0) (by rfl)) pa_nil)))
    (pss_cons (ps_if (pt_cmpR op_isN (pe_fld (pv 0) (by rfl)) pe_non (nomark _))
      (pss_one (ps_ret (pv 1)))
      pss_nil)
    (pss_cons (ps_set (i := 2) sc_Encoded__decoded.nd rfl (.inl rfl) (pe_lst pa_nil))
    (pss_cons (ps_set (i := 3) sc_Encoded__decoded.nd rfl (.inl rfl) pe_int)
    (pss_cons (ps_for PassesOwn.never rfl (pi_list (pe_fld (pv 0) (by rfl))) (pg_name (i := 4) sc_Encoded__decoded.nd rfl (.inl rfl))
      (pss_one (ps_if (pt_val (pv 4))
      (pss_one (ps_expr (pe_bm PySem.F.plainAttrs_list PySem.F.slot_list_append PySem.F.type_list_append mt_append (pv 2) (pa_cons pe_non pa_nil))))
      (pss_cons (ps_expr (pe_bm PySem.F.plainAttrs_list PySem.F.slot_list_append PySem.F.type_list_append mt_append (pv 2) (pa_cons (pe_ix ix_list (pv 1) (pv 3) (fun _ _ => rfl)) pa_nil)))
    (pss_one (ps_aug (i := 3) sc_Encoded__decoded.nd rfl (.inl rfl) pe_int ip_add))))))
    (pss_one (ps_ret (pv 2)))))))), ?_⟩
  obtain ⟨p, fm, d, xs, rfl, hf, hE, hn, hx, q⟩ := h
  have hz := hx.2
  have hpv := pres_pv hx
  obtain ⟨dx, mv, bv, hp, hm, hd⟩ := hE
  have cl := C_Encoded.cl
  refine q_asgL (xs := pres xs) (el_values hf hn (ev_fld (ev_var rfl) hp cl C_Encoded.na.2.2.1 encF_body) hd hpv) fun pp H1 hpp e1 h1 => ?_
  by_cases hlt : (pres xs).length < xs.length
  · have hmk : maskOf xs = some (xs.map fun x => decide (x = .non)) := if_pos hlt
    rw [hmk] at hm
    obtain ⟨pm, rfl, hpm⟩ := hm
    have fm_ : ∀ {σ : L2.St} {H0 : Hp}, σ[0]? = some (some (.ref p)) → Ex H H0 → Ev (tFld K (tVar 0) "mask") σ H0 (.ref pm) := fun h0 e0 => ev_fld (ev_var h0) (e0 _ _ hp) cl C_Encoded.na.2.1 encF_mask
    refine q_when (b := false) (et_test (ev_op (fm_ rfl e1) ev_c rv_isN)) (fun h => nomatch h) fun _ H2 e2 => ?_
    refine q_asgL (el_lst ea_nil (by decide)) fun pf H3 hpf e3 h3 => ?_
    refine q_asg (v := .int ((0 : Nat) : Int)) ev_c fun H4 e4 => ?_
    have x2 := e1.trans e2
    have hpfH : H pf = none := fresh_back x2 hpf
    refine q_forLn (xs := (xs.map fun x => decide (x = .non)).map V.bl) (fm_ rfl (x2.trans (e3.trans e4))) (sq_of ((x2.trans (e3.trans e4)) _ _ hpm)) (fun i σ' H' => ∃ vv, σ' = [some (.ref p), some (.ref pp), some (.ref pf), some (.int ((pres (xs.take i)).length : Nat)), vv] ∧ Ex H2 H' ∧ H' pf = some (.lst (xs.take i))) (fun H5 e5 => ⟨none, rfl, (e3.trans e4).trans e5, e5 _ _ (e4 _ _ h3)⟩) (fun i σ' H' _ pv => ?_) (fun i x σ' H' hi pv => ?_) fun σ' H' pv => ?_
    · obtain ⟨vv, rfl, e, _⟩ := pv
      exact sq_of (e _ _ (x2 _ _ hpm))
    · obtain ⟨vv, rfl, e, hl⟩ := pv
      rw [List.getElem?_map, List.getElem?_map] at hi
      obtain ⟨b, hb, rfl⟩ := Option.map_eq_some_iff.mp hi
      obtain ⟨y, hy, rfl⟩ := Option.map_eq_some_iff.mp hb
      have hpp4 : H' pp = some (.lst (pres xs)) := e _ _ (e2 _ _ h1)
      have hi40 : (xs.take i).length ≤ 41 := by rw [List.length_take]; omega
      have hs := pres_snoc hy
      refine s_if (b := decide (y = .non)) (et_B (ev_var rfl)) (fun hb H6 e6 => ?_) fun hb H6 e6 => ?_
      · have hy0 : y = .non := of_decide_eq_true hb
        subst hy0
        refine s_app (v := .non) (e6 _ _ hl) (ev_var rfl) ev_c (by omega) fun H7 e7 => ⟨some (.bl (decide (V.non = .non))), ?_, Ex.mut ((e.trans e6).trans e7) hpf, ?_⟩
        · rw [hs, pres_app, pres_non, List.append_nil]
          rfl
        · rw [hs]; exact upd_same
      · have hne : ¬ y = .non := of_decide_eq_false hb
        refine q_app (v := y) (e6 _ _ hl) (ev_var rfl) (ev_op (ev_var rfl) (ev_var rfl) (rv_ixL (sq_of (e6 _ _ hpp4)) (atI_nat (pres_get hy hne)))) (by omega) fun H7 e7 => ?_
        refine Evl.s_aug rfl ev_c fun H8 e8 => ⟨some (.bl (decide (y = .non))), ?_, (Ex.mut ((e.trans e6).trans e7) hpf).trans e8, e8 _ _ ?_⟩
        · rw [hs, pres_app, pres_one hne, List.length_append]
          rfl
        · rw [hs]; exact upd_same
    · obtain ⟨vv, rfl, e, hl⟩ := pv
      rw [List.length_map, List.length_map, List.take_length] at hl
      exact s_ret (ev_var rfl) fun H5 e5 => q pf H5 hpfH ((x2.trans e).trans e5) (e5 _ _ hl)
  · have hmk : maskOf xs = none := if_neg hlt
    rw [hmk] at hm
    obtain rfl : mv = .non := hm
    have hself : pres xs = xs := (List.filter_sublist (l := xs)).eq_of_length_le (by show xs.length ≤ (pres xs).length; omega)
    refine q_when (b := true) (et_test (ev_op (ev_fld (ev_var rfl) (e1 _ _ hp) cl C_Encoded.na.2.1 encF_mask) ev_c rv_isN)) (fun _ H2 e2 => ?_) fun h => nomatch h
    exact s_ret (ev_var rfl) fun H3 e3 => q pp H3 hpp ((e1.trans e2).trans e3) (e3 _ _ (e2 _ _ (by rw [h1, hself])))
end

/-! ### own == of two encoded columns -/
theorem bt_leaf {x : V} (h : Ok x) : Bt 0 (vD x) := ⟨x, h, rfl⟩
theorem bt_up {d : PyData} : ∀ {n : Nat}, Bt n d → Bt (n + 1) d
  | 0, h => .inl h
  | n + 1, h => by
    rcases h with h | ⟨ds, h1, h2, h3⟩
    · exact .inl h
    · exact .inr ⟨ds, h1, h2, fun z hz => bt_up (h3 z hz)⟩
theorem bt_vals {xs : List V} (h : PVs xs) : Bt 1 (.tuple (xs.map vD)) := .inr ⟨_, rfl, by rw [List.length_map]; have := h.2; omega, fun z hz => by
  obtain ⟨x, hx, rfl⟩ := List.mem_map.mp hz
  exact bt_leaf (h.ok hx)⟩
theorem bt_int (i : Int) : Bt 2 (.int i) := .inl ⟨.int i, .int i, rfl⟩
theorem bt_str {s : Str} (h : PyData.strOk s = true) : Bt 2 (.str s) := .inl ⟨.str s, .str s h, rfl⟩
theorem bt_val {x : V} (h : Ok x) : Bt 2 (vD x) := .inl ⟨x, h, rfl⟩
theorem bt_all {ds : List PyData} (h : ∀ z ∈ ds, Bt 2 z) (hl : ds.length ≤ 1000) : Bt 3 (.tuple ds) := .inr ⟨ds, rfl, hl, h⟩
theorem bt_form {fm : Str} {d : List V → PyData} {xs : List V} (h : FormD fm d) (hx : PVs xs) (hn : d xs ≠ .none) : Bt 3 (d xs) := by
  have st : ∀ {s : Str}, PyData.strOk s = true → Bt 2 (.str s) := fun h => bt_str h
  cases h with
  | plain => exact bt_all (by simpa using ⟨st (by decide +kernel), bt_up (bt_vals hx)⟩) (by show 2 ≤ 1000; decide)
  | constant =>
    unfold constD at hn ⊢
    split
    · rename_i hc; rw [if_pos hc] at hn; exact absurd rfl hn
    · rename_i hc
      obtain ⟨x0, r, rfl⟩ := List.exists_cons_of_ne_nil (l := xs) (fun z => hc (by rw [z]; rfl))
      exact bt_all (by simpa using ⟨st (by decide +kernel), bt_val (hx.ok List.mem_cons_self), bt_int _⟩) (by show 3 ≤ 1000; decide)
  | runs =>
    have hr := runs_pv xs [] (fun t ht => by cases ht) hx.1
    have hl := runs_len xs []
    have hB : Bt 2 (.tuple ((runsOf xs).map pairD)) := by
      refine .inr ⟨_, rfl, ?_, fun z hz => ?_⟩
      · rw [List.length_map]
        have h2 : (runsOf xs).length ≤ 0 + xs.length := hl
        have := hx.2
        omega
      · obtain ⟨t, ht, rfl⟩ := List.mem_map.mp hz
        refine .inr ⟨_, rfl, by show 2 ≤ 1000; decide, fun z hz => ?_⟩
        rcases List.mem_cons.mp hz with h | h
        · subst h; exact bt_leaf (hr t ht).1.ok
        · rw [List.mem_singleton.mp h]; exact ⟨.int t.2, .int _, rfl⟩
    exact bt_all (by simpa using ⟨st (by decide +kernel), hB⟩) (by show 2 ≤ 1000; decide)
  | dictionary =>
    have hw : PVs (wordsOf xs) := ⟨fun x h => hx.1 x (words_in h), Nat.le_trans (words_len xs []) (by have := hx.2; rw [List.length_nil]; omega)⟩
    exact bt_all (by simpa using ⟨st (by decide +kernel), bt_up (bt_vals hw), bt_int _, bt_int _, bt_int _⟩) (by show 5 ≤ 1000; decide)
  | packed =>
    unfold packedD at hn ⊢
    split
    · rename_i hc; rw [if_pos hc] at hn; exact absurd rfl hn
    · exact bt_all (by simpa using ⟨st (by decide +kernel), bt_int _, bt_int _, bt_int _, bt_int _⟩) (by show 5 ≤ 1000; decide)
  | deltas =>
    unfold deltasD at hn ⊢
    split
    · rename_i hc; rw [if_pos hc] at hn; exact absurd rfl hn
    · rename_i hc
      obtain ⟨x0, r, rfl⟩ := List.exists_cons_of_ne_nil (l := xs) (fun z => hc (by rw [z]; rfl))
      exact bt_all (by simpa using ⟨st (by decide +kernel), bt_val (hx.ok List.mem_cons_self), bt_int _, bt_int _, bt_int _, bt_int _⟩) (by show 6 ≤ 1000; decide)
def maskD : Option (List Bool) → PyData
  | none => .none
  | some bs => .list (bs.map PyData.bool)
theorem maskAt.dp {K : PySem.W.Frag} {H : Hp} {mv : V} {mk : Option (List Bool)} (h : maskAt H mv mk) : Dp K H mv (maskD mk) := by
  cases mk with
  | none =>
    obtain rfl : mv = .non := h
    exact .non
  | some bs =>
    obtain ⟨pm, rfl, hp⟩ := h
    refine .lst (sq_of hp) ?_
    have : ∀ bs : List Bool, DpAll K H (bs.map V.bl) (bs.map PyData.bool) := fun bs => by
      induction bs with
      | nil => exact .nil
      | cons b r ih => exact .cons (.bl b) ih
    exact this bs
theorem maskD_lay : ∀ bs : List Bool, PyData.canLayAll0 (bs.map PyData.bool) = true ∧ PyData.depthAll (bs.map PyData.bool) = 0
  | [] => ⟨rfl, rfl⟩
  | b :: r => by
    obtain ⟨h1, h2⟩ := maskD_lay r
    refine ⟨?_, ?_⟩
    · show (true && PyData.canLayAll0 (r.map PyData.bool)) = true
      rw [h1]
      rfl
    · show max 0 (PyData.depthAll (r.map PyData.bool)) = 0
      rw [h2]
      rfl
theorem maskD_sh (mk : Option (List Bool)) : SeqAt.shaped (maskD mk) = true := by
  cases mk with
  | none => rfl
  | some bs =>
    obtain ⟨h1, h2⟩ := maskD_lay bs
    show (PyData.canLayAll0 (bs.map PyData.bool) && decide (PyData.depthAll (bs.map PyData.bool) + 1 ≤ 64)) = true
    rw [h1, h2]
    rfl
theorem bools_eqv : ∀ a b : List Bool, PyData.eqv (.list (a.map PyData.bool)) (.list (b.map PyData.bool)) = true ↔ a = b
  | [], [] => ⟨fun _ => rfl, fun _ => rfl⟩
  | [], _ :: _ => ⟨(fun h => nomatch h), (fun h => nomatch h)⟩
  | _ :: _, [] => ⟨(fun h => nomatch h), (fun h => nomatch h)⟩
  | x :: r, y :: t => by
    have ih := bools_eqv r t
    have e : PyData.eqv (.list ((x :: r).map PyData.bool)) (.list ((y :: t).map PyData.bool)) = (PyData.eqv (.bool x) (.bool y) && PyData.eqv (.list (r.map PyData.bool)) (.list (t.map PyData.bool))) := rfl
    rw [e, Bool.and_eq_true, ih, List.cons.injEq]
    have e2 : PyData.eqv (.bool x) (.bool y) = true ↔ x = y := by cases x <;> cases y <;> decide
    rw [e2]
theorem maskD_iff (a b : Option (List Bool)) : PyData.eqv (maskD a) (maskD b) = true ↔ a = b := by
  cases a with
  | none => cases b with
    | none => exact ⟨fun _ => rfl, fun _ => rfl⟩
    | some b => exact ⟨(fun h => nomatch h), (fun h => nomatch h)⟩
  | some a => cases b with
    | none => exact ⟨(fun h => nomatch h), (fun h => nomatch h)⟩
    | some b =>
      rw [Option.some.injEq]
      exact bools_eqv a b
/-- an encoded column with these data -/
def EncB (K : PySem.W.Frag) (H : Hp) (p : Addr) (n : Nat) (mk : Option (List Bool)) (dt : PyData) : Prop := EncAt K H p n mk dt ∧ Bt 3 dt
def sp_Encoded____eq__ (K : PySem.W.Frag) : Sp := fun vs H Q _ => ∃ (p : Addr) (y : V) (n : Nat) (mk : Option (List Bool)) (dt : PyData), vs = [.ref p, y] ∧ EncB K H p n mk dt ∧ ((∃ i, y = .int i ∧ ∀ H', Ex H H' → Q (.bl false) H') ∨ ∃ p2 n2 mk2 dt2, y = .ref p2 ∧ EncB K H p2 n2 mk2 dt2 ∧ ∀ b H', (b = true ↔ n = n2 ∧ mk = mk2 ∧ dt = dt2) → Ex H H' → Q (.bl b) H')
theorem eb_andV {σ : L2.St} {H : Hp} {ta tb : TE} {a : Bool} {R : Bool → Prop} (h1 : Ev ta σ H (.bl a)) (h2 : a = true → EvB tb σ H R) : EvB (tAndV ta tb) σ H (fun b => (a = true → R b) ∧ (a = false → b = false)) := fun H1 e Q q => h1 H1 e _ fun H2 e2 => ⟨a, rfl, by
  cases a with
  | true =>
    show tb σ H2 Q
    exact h2 rfl H2 (e.trans e2) Q fun b H3 hb e3 => q b H3 ⟨fun _ => hb, (fun h => nomatch h)⟩ (e2.trans e3)
  | false =>
    show Q (.bl false) H2
    exact q false H2 ⟨(fun h => nomatch h), fun _ => rfl⟩ e2⟩
section
variable {P : Program} {w : World} {K : PySem.W.Frag} {mg : Str → Option Value} {base : Heap}
theorem ok_Encoded____eq__ (D : MetD K "Encoded" "__eq__" "Encoded.__eq__" s_Encoded____eq__ ["self", "other"]) (C_Encoded : ClsD K mg "Encoded" ["length", "mask", "body"]) (I_Encoded : OwnI K "Encoded") (c__are_alike : C8.Cal P w K mg base 8 "_are_alike" (sp__are_alike K) []) (z_isinstance : mg "isinstance" = none) :
    C8.Met P w K mg base 9 (clsAt K "Encoded") "__eq__" (sp_Encoded____eq__ K) [] := by
  refine met_of C_Encoded D sc_Encoded____eq__ (fun vs H Q E h => ?_) (fun f cdv A outer s H vs Q E hr h => ?_)
  · obtain ⟨_, _, _, _, _, rfl, _⟩ := h
    rfl
  refine ⟨_, (pss_cons (ps_if (pt_not (pt_val (pe_callB (call_isOwn I_Encoded.ins I_Encoded.ki) (by rfl) z_isinstance (by decide +kernel) (pa_cons (pv 1) (pa_cons (C8.pe_gc rfl (gcls C_Encoded)) pa_nil)))))
      (pss_one (ps_ret pe_bl))
      pss_nil)
    (pss_one (ps_ret (pe_and (pe_cmpR op_eq (pe_fld (pv 0) (by rfl)) (pe_fld (pv 1) (by rfl)) (nomark _)) (pe_and (pe_cmpR (op_eqD (hu64 hr)) (pe_fld (pv 0) (by rfl)) (pe_fld (pv 1) (by rfl)) (nomark _)) (pe_one (C8.pe_c c__are_alike hr (by decide) (by rfl) (pa_cons (pe_fld (pv 0) (by rfl)) (pa_cons (pe_fld (pv 1) (by rfl)) pa_nil))))))))), ?_⟩
  obtain ⟨p, y, n, mk, dt, rfl, ⟨⟨dx, mv, bv, hp, hm, hd⟩, hB⟩, h⟩ := h
  have cl := C_Encoded.cl
  rcases h with ⟨i, rfl, q⟩ | ⟨p2, n2, mk2, dt2, rfl, ⟨⟨dx2, mv2, bv2, hp2, hm2, hd2⟩, hB2⟩, q⟩
  · refine q_when (b := !false) (et_not (et_B fun H1 e1 Q k => ⟨_, rfl, _, rfl, .inr ⟨i, rfl, k H1 (Ex.refl H1)⟩⟩)) (fun _ H1 e1 => ?_) fun h => nomatch h
    exact s_ret (v := .bl false) ev_c fun H2 e2 => q H2 (e1.trans e2)
  · refine q_when (b := !true) (et_not (et_B fun H1 e1 Q k => ⟨_, rfl, _, rfl, .inl ⟨p2, dx2, _, rfl, e1 _ _ hp2, k H1 (Ex.refl H1)⟩⟩)) (fun h => nomatch h) fun _ H1 e1 => ?_
    refine s_retB (eb_andV (a := decide (V.int (n : Int) = V.int (n2 : Int))) (ev_op (ev_fld (ev_var rfl) (e1 _ _ hp) cl C_Encoded.na.1 encF_len) (ev_fld (ev_var rfl) (e1 _ _ hp2) cl C_Encoded.na.1 encF_len) (rv_eq rfl)) fun h1 => eb_andV (a := PyData.eqv (maskD mk) (maskD mk2)) (ev_eqD (ed_val (ev_fld (ev_var rfl) (e1 _ _ hp) cl C_Encoded.na.2.1 encF_mask) (hm.ex e1).dp) (ed_val (ev_fld (ev_var rfl) (e1 _ _ hp2) cl C_Encoded.na.2.1 encF_mask) (hm2.ex e1).dp) (maskD_sh mk) (maskD_sh mk2)) fun h2 => (show EvB _ _ H1 (fun b => b = true ↔ dt = dt2) from fun H2 e2 Q k => (ea_cons (ev_fld (ev_var rfl) (e1 _ _ hp) cl C_Encoded.na.2.2.1 encF_body) (ea_cons (ev_fld (ev_var rfl) (e1 _ _ hp2) cl C_Encoded.na.2.2.1 encF_body) ea_nil)) H2 e2 _ fun H3 e3 => ⟨bv, bv2, dt, dt2, rfl, ex_dp ((e1.trans e2).trans e3) hd, ex_dp ((e1.trans e2).trans e3) hd2, hB, hB2, fun b H4 hb e4 => k b H4 hb (e3.trans e4)⟩)) fun b H2 hb e2 => q b H2 ?_ (e1.trans e2)
    obtain ⟨k1, k2⟩ := hb
    by_cases hn : n = n2
    · have hn2 : decide (V.int (n : Int) = V.int (n2 : Int)) = true := by rw [hn]; exact decide_eq_true rfl
      obtain ⟨k3, k4⟩ := k1 hn2
      by_cases hm : mk = mk2
      · rw [k3 ((maskD_iff _ _).mpr hm)]
        exact ⟨fun h => ⟨hn, hm, h⟩, fun h => h.2.2⟩
      · rw [k4 (Bool.eq_false_iff.mpr fun h => hm ((maskD_iff _ _).mp h))]
        exact ⟨(fun h => nomatch h), fun h => absurd h.2.1 hm⟩
    · rw [k2 (decide_eq_false fun h => hn (Int.ofNat.inj (V.int.inj h)))]
      exact ⟨(fun h => nomatch h), fun h => absurd h.1 hn⟩
end

--@SPLIT
/-! ### what the law draws, and which forms are possible -/
section
variable {K : PySem.W.Frag} {σ : L2.St} {H : Hp} {p : Addr} {ta tb te tl : TE} {t u : TT} {R : V → Prop} {D : Ends} {tz : TS} {PB : Bool → Prop}
theorem set_same {i : Nat} {v : V} (h : σ[i]? = some (some v)) : σ.set i (some v) = σ := by
  apply List.ext_getElem?
  intro j
  rw [List.getElem?_set]
  split
  · rename_i e
    subst e
    rw [h, if_pos (List.getElem?_eq_some_iff.mp h).1]
  · rfl
theorem edt_pure {b : Bool} (h : EvT t σ (wo p H) b) (hb : PB b) : EvDT t σ p H PB := fun H1 e d Q q => h H1 e Q fun H2 e2 => q b H2 hb (wx_of e2) (d.ex e2)
theorem edt_mono {PC : Bool → Prop} (h : EvDT t σ p H PB) (k : ∀ b, PB b → PC b) : EvDT t σ p H PC := fun H1 e d Q q => h H1 e d Q fun b H2 hb e2 d2 => q b H2 (k b hb) e2 d2
theorem edt_and {a : Bool} (h1 : EvT t σ (wo p H) a) (h2 : a = true → EvDT u σ p H PB) (h0 : a = false → PB false) : EvDT (tAnd t u) σ p H PB := fun H1 e d Q q =>
  h1 H1 e _ fun H2 e2 => by
    cases a with
    | false => exact q false H2 (h0 rfl) (wx_of e2) (d.ex e2)
    | true => exact h2 rfl H2 (e.trans e2) (d.ex e2) Q fun b H3 hb e3 d3 => q b H3 hb (wx_trans (wx_of e2) e3) d3
theorem q1_ifA {i : Nat} {v0 : V} (ht : EvDT t σ p H PB) (d : Dr p H) (h : PB true → ∀ H1, Ex (wo p H) H1 → EvD1 te σ p H1 R) (h0 : σ[i]? = some (some v0)) (hv : PB false → R v0) (k : ∀ v H1, R v → Ex (wo p H) H1 → Dr p H1 → tz D (σ.set i (some v)) H1) :
    tSeq (tIfS t (tAsg te (gName i)) tNext) tz D σ H := ht H (wo_le p H) d _ fun b H1 hb e1 d1 => by
  cases b with
  | true =>
    show tAsg te (gName i) { D with nx := tz D } σ H1
    exact h hb H1 e1 H1 (wo_le p H1) d1 _ fun v H2 hv e2 d2 => k v H2 hv (wx_trans e1 e2) d2
  | false =>
    show tz D σ H1
    have := k v0 H1 (hv hb) e1 d1
    rw [set_same h0] at this
    exact this
end
def sp__law_values (K : PySem.W.Frag) : Sp := fun vs H Q _ => ∃ (a : Addr) (ns : List Int), vs = [.ref a] ∧ SqL K H a (ns.map V.int) ∧ ns.length ≤ 63 ∧ ∀ p xs H', H p = none → Ex H H' → H' p = some (.lst xs) → VVs xs → xs.length ≤ 40 → Q (.ref p) H'
def sp__law_possible (K : PySem.W.Frag) : Sp := fun vs H Q _ => ∃ (fm : Str) (d : List V → PyData) (a : Addr) (xs : List V), vs = [.str fm, .ref a] ∧ FormD fm d ∧ SqL K H a xs ∧ PVs xs ∧ ∀ b H', (b = true ↔ d xs ≠ .none) → Ex H H' → Q (.bl b) H'
theorem none_given {xs : List V} {g : V → Bool} {v : Nat → V} : decide (V.int ((given xs.length (fun i => !g (xs.getD i .non)) v).length : Nat) = V.int 0) = xs.all g := by
  have e : (given xs.length (fun i => !g (xs.getD i .non)) v).length = (xs.filter fun x => !g x).length := by
    rw [← given_filter (g := fun x => !g x)]
    unfold given
    rw [List.length_map, List.length_map]
  rw [e]
  cases h : xs.all g with
  | true =>
    have e2 : xs.filter (fun x => !g x) = [] := by
      rw [List.filter_eq_nil_iff]
      intro x hx
      rw [List.all_eq_true.mp h x hx]
      decide
    rw [e2]
    rfl
  | false =>
    refine decide_eq_false fun z => ?_
    have z2 := V.int.inj z
    have e2 : xs.filter (fun x => !g x) = [] := List.length_eq_zero_iff.mp (by omega)
    rw [List.filter_eq_nil_iff] at e2
    have h2 : xs.all g = true := List.all_eq_true.mpr fun x hx => by
      have := e2 x hx
      cases h3 : g x with
      | true => rfl
      | false => rw [h3] at this; exact absurd rfl this
    rw [h] at h2
    exact nomatch h2
section
variable {K : PySem.W.Frag} {σ : L2.St} {H : Hp} {te : TE}
theorem ev_lenN {xs : List V} (h : EvL te σ H xs) : Ev (tCB (rLenS K) (tCons te tNil)) σ H (.int (xs.length : Int)) := fun H1 e Q q => h H1 e _ fun p H2 _ e2 h2 => ⟨p, xs, rfl, .inl (sq_of h2), q H2 e2⟩
end
section
variable {P : Program} {w : World} {K : PySem.W.Frag} {mg : Str → Option Value} {base : Heap}
theorem ok__law_rank (D : Dn K mg "_law_rank" s__law_rank ["value"]) (z_bool : mg "bool" = none) (z_int : mg "int" = none) (z_isinstance : mg "isinstance" = none) :
    C8.Cal P w K mg base 1 "_law_rank" (sp__law_rank K) [] := by
  refine cal_of D sc__law_rank (fun vs H Q E h => ?_) (fun f cdv A outer s H vs Q E hr h => ?_)
  · obtain ⟨_, rfl, _⟩ := h
    rfl
  refine ⟨_, (pss_cons (ps_if (pt_cmpR op_isN (pv 0) pe_non (nomark _))
      (pss_one (ps_ret (pe_tup (pa_cons pe_int (pa_cons pe_int pa_nil)))))
      pss_nil)
    (pss_cons (ps_if (pt_val (pe_callB call_isi (by rfl) z_isinstance (by decide +kernel) (pa_cons (pv 0) (pa_cons (pe_bltn (v := .ty "bool") (u := .type "bool") rfl z_bool (by decide +kernel) rfl) pa_nil))))
      (pss_one (ps_ret (pe_tup (pa_cons pe_int (pa_cons (pe_callTy call_int1 (by rfl) z_int (by decide +kernel) (pa_cons (pv 0) pa_nil)) pa_nil)))))
      pss_nil)
    (pss_cons (ps_if (pt_val (pe_callB call_isi (by rfl) z_isinstance (by decide +kernel) (pa_cons (pv 0) (pa_cons (pe_bltn (v := .ty "int") (u := .type "int") rfl z_int (by decide +kernel) rfl) pa_nil))))
      (pss_one (ps_ret (pe_tup (pa_cons pe_int (pa_cons (pv 0) pa_nil)))))
      pss_nil)
    (pss_one (ps_ret (pe_tup (pa_cons pe_int (pa_cons (pv 0) pa_nil)))))))), ?_⟩
  obtain ⟨x, rfl, hx, q⟩ := h
  have two : (2 : Nat) ≤ 100000 := by decide
  refine q_when (b := decide (x = .non)) (by walk_at "et") (fun hb H1 e1 => s_retU (xs := rkL x) ?_ fun p H2 hp e2 h2 => q p H2 (fresh_back e1 hp) (e1.trans e2) h2) fun hb H1 e1 => ?_
  · rw [of_decide_eq_true hb]
    exact eu_tup (ea_cons ev_c (ea_cons ev_c ea_nil)) (by show 2 ≤ 100000; decide)
  cases hx with
  | non => exact absurd hb (by decide)
  | bl b => exact q_when (b := true) (et_B (ev_isiP (ev_var rfl) (.bl b) (by show kitB "bool" "bool" = some true; decide +kernel))) (fun _ H2 e2 => s_retU (xs := rkL (.bl b)) (eu_tup (ea_cons ev_c (ea_cons (ev_intB (ev_var rfl)) ea_nil)) two) fun p H3 hp e3 h3 => q p H3 (fresh_back (e1.trans e2) hp) ((e1.trans e2).trans e3) h3) fun hb => nomatch hb
  | int i => exact q_when (b := false) (et_B (ev_isiP (ev_var rfl) (.int i) (by show kitB "int" "bool" = some false; decide +kernel))) (fun hb => nomatch hb) fun _ H2 e2 => q_when (b := true) (et_B (ev_isiP (ev_var rfl) (.int i) (by show kitB "int" "int" = some true; decide +kernel))) (fun _ H3 e3 => s_retU (xs := rkL (.int i)) (eu_tup (ea_cons ev_c (ea_cons (ev_var rfl) ea_nil)) two) fun p H4 hp e4 h4 => q p H4 (fresh_back ((e1.trans e2).trans e3) hp) (((e1.trans e2).trans e3).trans e4) h4) fun hb => nomatch hb
  | str s hs => exact q_when (b := false) (et_B (ev_isiP (ev_var rfl) (.str s) (by show kitB "str" "bool" = some false; decide +kernel))) (fun hb => nomatch hb) fun _ H2 e2 => q_when (b := false) (et_B (ev_isiP (ev_var rfl) (.str s) (by show kitB "str" "int" = some false; decide +kernel))) (fun hb => nomatch hb) fun _ H3 e3 => s_retU (xs := rkL (.str s)) (eu_tup (ea_cons ev_c (ea_cons (ev_var rfl) ea_nil)) two) fun p H4 hp e4 h4 => q p H4 (fresh_back ((e1.trans e2).trans e3) hp) (((e1.trans e2).trans e3).trans e4) h4
theorem ok__law_values (D : Dn K mg "_law_values" s__law_values ["script"]) (c__law_cell : C8.Cal P w K mg base 1 "_law_cell" (sp__law_cell K) []) (c__law_digit : C8.Cal P w K mg base 1 "_law_digit" (sp__law_digit K) []) (c__law_is_integer : C8.Cal P w K mg base 1 "_law_is_integer" (sp__law_is_integer K) []) (c__law_state : C8.Cal P w K mg base 1 "_law_state" (sp__law_state K) []) (c__law_value : C8.Cal P w K mg base 3 "_law_value" (sp__law_value K) []) (z_len : mg "len" = none) (z_min : mg "min" = none) (z_range : mg "range" = none) :
    C8.Cal P w K mg base 4 "_law_values" (sp__law_values K) [] := by
  refine cal_of D sc__law_values (fun vs H Q E h => ?_) (fun f cdv A outer s H vs Q E hr h => ?_)
  · obtain ⟨_, _, rfl, _⟩ := h
    rfl
  refine ⟨_, (pss_cons (ps_set (i := 1) sc__law_values.nd rfl (.inl rfl) (C8.pe_c c__law_state hr (by decide) (by rfl) (pa_cons (C8.pe_c c__law_cell hr (by decide) (by rfl) (pa_cons (pv 0) (pa_cons pe_int pa_nil))) (pa_cons pe_int pa_nil))))
    (pss_cons (ps_set (i := 2) sc__law_values.nd rfl (.inl rfl) (C8.pe_c c__law_digit hr (by decide) (by rfl) (pa_cons (pv 1) (pa_cons pe_int pa_nil))))
    (pss_cons (ps_set (i := 3) sc__law_values.nd rfl (.inl rfl) (pe_lst pa_nil))
    (pss_cons (ps_for PassesOwn.never rfl (pi_range1 rfl z_range (pa_cons (pe_callB (call_min2 rfl) (by rfl) z_min (by decide +kernel) (pa_cons pe_int (pa_cons (pe_callB call_len_seq (by rfl) z_len PySem.boot_len (pa_cons (pv 0) pa_nil)) pa_nil))) pa_nil)) (pg_name (i := 4) sc__law_values.nd rfl (.inl rfl))
      (pss_cons (ps_set (i := 1) sc__law_values.nd rfl (.inl rfl) (C8.pe_c c__law_state hr (by decide) (by rfl) (pa_cons (C8.pe_c c__law_cell hr (by decide) (by rfl) (pa_cons (pv 0) (pa_cons (pe_op op_add pe_int (pv 4)) pa_nil))) (pa_cons (pv 4) pa_nil))))
    (pss_cons (ps_set (i := 5) sc__law_values.nd rfl (.inl rfl) (C8.pe_c c__law_value hr (by decide) (by rfl) (pa_cons (pv 1) pa_nil)))
    (pss_cons (ps_if (PW.pt (pw_and (pt_cmpR op_eq (pv 2) pe_int (nomark _)) (pw_and (pt_not (pt_val (C8.pe_c c__law_is_integer hr (by decide) (by rfl) (pa_cons (pv 5) pa_nil)))) (pw_and1 (pt_cmpR op_notN (pv 5) pe_non (nomark _))))))
      (pss_one (ps_set (i := 5) sc__law_values.nd rfl (.inl rfl) (pe_op op_sub (C8.pe_c c__law_digit hr (by decide) (by rfl) (pa_cons (pv 1) (pa_cons pe_int pa_nil))) pe_int)))
      pss_nil)
    (pss_cons (ps_if (PW.pt (pw_and (pt_cmpR op_eq (pv 2) pe_int (nomark _)) (pw_and (pt_cmpR op_gt (pe_callB call_len_seq (by rfl) z_len PySem.boot_len (pa_cons (pv 3) pa_nil)) pe_int (nomark _)) (pw_and1 (pt_cmpR op_gt (C8.pe_c c__law_digit hr (by decide) (by rfl) (pa_cons (pv 1) (pa_cons pe_int pa_nil))) pe_int (nomark _))))))
      (pss_one (ps_set (i := 5) sc__law_values.nd rfl (.inl rfl) (pe_ix ix_list (pv 3) (pe_un un_neg pe_int) (fun _ _ => rfl))))
      pss_nil)
    (pss_cons (ps_if (PW.pt (pw_and (pt_cmpR op_eq (pv 2) pe_int (nomark _)) (pw_and (pt_cmpR op_gt (pe_callB call_len_seq (by rfl) z_len PySem.boot_len (pa_cons (pv 3) pa_nil)) pe_int (nomark _)) (pw_and1 (pt_cmpR op_notN (pv 5) pe_non (nomark _))))))
      (pss_one (ps_set (i := 5) sc__law_values.nd rfl (.inl rfl) (pe_ix ix_list (pv 3) pe_int (fun _ _ => rfl))))
      pss_nil)
    (pss_one (ps_expr (pe_bm PySem.F.plainAttrs_list PySem.F.slot_list_append PySem.F.type_list_append mt_append (pv 3) (pa_cons (pv 5) pa_nil))))))))))
    (pss_one (ps_ret (pv 3))))))), ?_⟩
  obtain ⟨a, ns, rfl, hS, h63, q⟩ := h
  refine q_asgC (ec_state (ec_cell (ev_var rfl) ev_c hS (by decide)) ev_c) fun p1 H1 hp1 e1 d1 => ?_
  refine qz_asg (ez_digit (ev_var rfl) ev_c (by decide) (by decide)) d1 fun kd H2 hk e2 d2 => ?_
  have x2 : Ex H H2 := wx_back hp1 e1 e2
  refine q_asgL (el_lst ea_nil (by decide)) fun p3 H3 hp3 e3 h3 => ?_
  have hpH : H p3 = none := fresh_back x2 hp3
  refine q_forR1 (n := if (((ns.map V.int).length : Nat) : Int) < 40 then (((ns.map V.int).length : Nat) : Int) else 40) (ea_cons (ev_min2 ev_c (ev_len (ev_var rfl) (ex_l (x2.trans e3) hS))) ea_nil) ⟨by split <;> omega, by split <;> omega⟩
    (fun i σ' H' => ∃ ps kv vv xs, σ' = [some (.ref a), some (.ref ps), some (.int kd), some (.ref p3), kv, vv] ∧ Ex H H' ∧ H' p3 = some (.lst xs) ∧ xs.length = i ∧ ∀ x ∈ xs, DV x)
    (fun H4 e4 => ⟨p1, none, none, [], rfl, (x2.trans e3).trans e4, e4 _ _ h3, rfl, fun x hx => by cases hx⟩) (fun i σ' H' hi pv => ?_) fun σ' H4 pv => ?_
  · obtain ⟨ps, kv, vv, xs, rfl, x, hx, hl, hpv⟩ := pv
    have hi40 : i < 40 := by split at hi <;> omega
    refine q_asgC (ec_state (ec_cell (k := 1 + (i : Int)) (ev_var rfl) (ev_op ev_c (ev_var rfl) rv_I0) (ex_l x hS) (by omega)) (ev_var rfl)) fun p2 Ha hp2 ea da => ?_
    have hne : p3 ≠ p2 := fun z => by
      rw [z, hp2] at hx
      cases hx
    have at3 : ∀ {H0 : Hp}, Ex (wo p2 Ha) H0 → H0 p3 = some (.lst xs) := fun e => e _ _ (by rw [wo_ne hne]; exact ea _ _ hx)
    have at3w : ∀ {H0 : Hp}, Ex (wo p2 Ha) H0 → wo p2 H0 p3 = some (.lst xs) := fun e => by rw [wo_ne hne]; exact at3 e
    have back : ∀ {H0 : Hp}, Ex (wo p2 Ha) H0 → Ex H H0 := fun e => x.trans (wx_back hp2 ea e)
    refine q1_asg (e1_value (ev_var rfl)) da fun v0 Hb hv0 eb db => ?_
    refine q1_ifA (PB := fun _ => True) (R := DV) (edt_pure (b := decide (V.int kd = V.int 1) && (!isInt v0 && !decide (v0 = .non))) (et_and (by walk_at "et") fun _ => et_and (et_not (et_B (ec_isint (ev_var rfl) hv0.pl))) fun _ => by walk_at "et") trivial) db (fun hb H0 e0 => e1_mono (ez_op0 (SI := fun i => -4 ≤ i ∧ i < 5) (ez_digit (ev_var rfl) ev_c (by decide) (by decide)) (e1_int (PI := fun j => j = 4) ev_c rfl) fun i j hi hj => by omega) fun v ⟨i, ew, hi⟩ => by subst ew; exact .int i (by omega)) rfl (fun _ => hv0) fun v1 Hc hv1 ec dc => ?_
    have xc := wx_trans eb ec
    refine q1_ifA (PB := fun b => b = true → 0 < xs.length) (R := DV) (edt_and (a := decide (V.int kd = V.int 2)) (by walk_at "et") (fun h1 => edt_and (a := decide (0 < (xs.length : Int))) (et_test (ev_op (ev_len (ev_var rfl) (sq_of (at3w xc))) ev_c rv_I0)) (fun h2 => edt_mono (edt_test (ez_cmp (ez_digit (ev_var rfl) ev_c (by decide) (by decide)) (e1_int (PI := fun j => j = 0) ev_c rfl))) fun _ _ _ => by have := of_decide_eq_true h2; omega) (fun _ h => nomatch h)) (fun _ h => nomatch h)) dc (fun hb H0 e0 => ?_) rfl (fun _ => hv1) fun v2 Hd hv2 ed dd => ?_
    · have h0 := hb rfl
      have hj : xs.length - 1 < xs.length := by omega
      have hw := at3w (wx_trans xc e0)
      have hj2 : atI xs (-1) = some xs[xs.length - 1] := by
        have e : xs = xs.take (xs.length - 1) ++ [xs[xs.length - 1]] := by
          have := List.take_append_drop (xs.length - 1) xs
          rw [List.drop_eq_getElem_cons hj, show xs.length - 1 + 1 = xs.length by omega, List.drop_length] at this
          exact this.symm
        conv => lhs; rw [e]
        exact atI_last _ _
      exact e1_pure (v := xs[xs.length - 1]) (ev_op (ev_var rfl) (ev_un ev_c ru_neg) (rv_ixL (sq_of hw) hj2)) (hpv _ (List.getElem_mem hj))
    have xd := wx_trans xc ed
    refine q1_ifA (PB := fun b => b = true → 0 < xs.length) (R := DV) (edt_pure (b := decide (V.int kd = V.int 3) && (decide (0 < (xs.length : Int)) && !decide (v2 = .non))) (et_and (by walk_at "et") fun _ => et_and (et_test (ev_op (ev_len (ev_var rfl) (sq_of (at3w xd))) ev_c rv_I0)) fun _ => by walk_at "et") (fun h => ?_)) dd (fun hb H0 e0 => ?_) rfl (fun _ => hv2) fun v3 He hv3 ee de => ?_
    · rw [Bool.and_eq_true, Bool.and_eq_true, decide_eq_true_eq, decide_eq_true_eq] at h
      omega
    · have h2 := hb rfl
      exact e1_pure (v := xs[0]) (ev_op (ev_var rfl) ev_c (rv_ixL (sq_of (at3w (wx_trans xd e0))) (atI_nat (j := 0) (List.getElem?_eq_getElem h2)))) (hpv _ (List.getElem_mem h2))
    have xe := wx_trans xd ee
    refine s_app (at3 xe) (ev_var rfl) (ev_var rfl) (by omega) fun H6 e6 => ⟨_, _, _, xs ++ [v3], rfl, Ex.mut ((back xe).trans e6) hpH, upd_same, by rw [List.length_append, hl]; rfl, fun y hy => ?_⟩
    rcases List.mem_append.mp hy with h | h
    · exact hpv y h
    · rw [List.mem_singleton.mp h]; exact hv3
  · obtain ⟨ps, kv, vv, xs, rfl, x, hx, hl, hpv⟩ := pv
    exact s_ret (ev_var rfl) fun H5 e5 => q p3 xs H5 hpH (x.trans e5) (e5 _ _ hx) ⟨hpv, (by rw [hl]; split <;> omega), Nat.le_trans (List.length_filter_le _ _) (by rw [hl]; split <;> omega)⟩ (by rw [hl]; split <;> omega)
end

/-! ### possible forms; the turned list -/
theorem ev_inT {K : PySem.W.Frag} {σ : L2.St} {H : Hp} {ta tb : TE} {x : V} {ys : List V} (ha : Ev ta σ H x) (hb : EvU tb σ H ys) (fx : flatV x = true) (fy : ys.all flatV = true) : Ev (tOp (rIn K false) ta tb) σ H (.bl (inV x ys)) := fun H1 e Q q =>
  ha H1 e _ fun H2 e2 => hb H2 (e.trans e2) _ fun p H3 hp e3 h3 => ⟨p, ys, rfl, .inr (st_of h3), fx, fy, q H3 (e2.trans e3)⟩
theorem op_neDK {X : Cx} {K : PySem.W.Frag} (h : X.K = K) (hu : X.A.units + 64 < cLine) : OpR X (compareOp .NotEq) (rNeD K) := h ▸ op_neD hu
theorem all_same (x0 : V) (r : List V) : allSame (x0 :: r) = (x0 :: r).all fun x => sameB x x0 := rfl
section
variable {P : Program} {w : World} {K : PySem.W.Frag} {mg : Str → Option Value} {base : Heap}
theorem ok__law_possible (D : Dn K mg "_law_possible" s__law_possible ["form", "present"]) (c__law_is_integer : C8.Cal P w K mg base 1 "_law_is_integer" (sp__law_is_integer K) []) (c__law_rank : C8.Cal P w K mg base 1 "_law_rank" (sp__law_rank K) []) (z_len : mg "len" = none) :
    C8.Cal P w K mg base 2 "_law_possible" (sp__law_possible K) [] := by
  refine cal_of D sc__law_possible (fun vs H Q E h => ?_) (fun f cdv A outer s H vs Q E hr h => ?_)
  · obtain ⟨_, _, _, _, rfl, _⟩ := h
    rfl
  refine ⟨_, (pss_cons (ps_if (pt_cmpR op_eq (pv 0) pe_str (nomark _))
      (pss_one (ps_ret (pe_and (pe_cmpR op_gt (pe_callB call_len_seq (by rfl) z_len PySem.boot_len (pa_cons (pv 1) pa_nil)) pe_int (nomark _)) (pe_one (pe_cmpR op_eq (pe_callB call_len_seq (by rfl) z_len PySem.boot_len (pa_cons (pe_lc (own := [("v", 4)]) (g := gName 4) rfl sc__law_possible.nd (pi_list (pv 1)) (blkOk_by (N := n__law_possible) (sc := C8.fnScope s__law_possible) (by decide +kernel)) (fun _ _ _ _ _ => pg_name (i := 4) sc__law_possible.nd rfl (Or.inl rfl)) (fun _ _ _ _ _ => (pts_one (pt_cmpR (op_neDK (K := K) rfl (hu64 hr)) (C8.pe_c c__law_rank hr (by decide) (by rfl) (pa_cons (pv 4) pa_nil)) (C8.pe_c c__law_rank hr (by decide) (by rfl) (pa_cons (pe_ix (ix_listK (K := K) rfl) (pv 1) pe_int (fun _ _ => rfl)) pa_nil)) (nomark _)))) (fun _ _ _ _ _ => (pv 4))) pa_nil)) pe_int (nomark _))))))
      pss_nil)
    (pss_cons (ps_if (pt_cmpR op_in_seq (pv 0) (pe_tup (pa_cons pe_str (pa_cons pe_str pa_nil))) (by with_unfolding_all rfl))
      (pss_cons (ps_set (i := 2) sc__law_possible.nd rfl (.inl rfl) (pe_cmpR op_eq (pe_callB call_len_seq (by rfl) z_len PySem.boot_len (pa_cons (pe_lc (own := [("value", 3)]) (g := gName 3) rfl sc__law_possible.nd (pi_list (pv 1)) (blkOk_by (N := n__law_possible) (sc := C8.fnScope s__law_possible) (by decide +kernel)) (fun _ _ _ _ _ => pg_name (i := 3) sc__law_possible.nd rfl (Or.inl rfl)) (fun _ _ _ _ _ => (pts_one (pt_not (pt_val (C8.pe_c c__law_is_integer hr (by decide) (by rfl) (pa_cons (pv 3) pa_nil)))))) (fun _ _ _ _ _ => (pv 3))) pa_nil)) pe_int (nomark _)))
    (pss_one (ps_ret (pe_and (pv 2) (pe_one (pe_or (pe_cmpR op_eq (pv 0) pe_str (nomark _)) (pe_one (pe_cmpR op_gt (pe_callB call_len_seq (by rfl) z_len PySem.boot_len (pa_cons (pv 1) pa_nil)) pe_int (nomark _)))))))))
      pss_nil)
    (pss_one (ps_ret pe_bl)))), ?_⟩
  obtain ⟨fm, d, a, xs, rfl, hf, hS, hx, q⟩ := h
  have hz := hx.2
  have getD_is : ∀ {i : Nat} {x : V}, xs[i]? = some x → xs.getD i .non = x := fun hi => by rw [List.getD_eq_getElem?_getD, hi]; rfl
  have nx : ∀ {a b : Str} {r : Bool} {H0 : Hp} {σ : L2.St}, σ[0]? = some (some (.str a)) → decide (V.str a = V.str b) = r → EvT (tTest (tOp rEq (tVar 0) (tC (.str b)))) σ H0 r := fun h1 h2 => et_eqS (ev_var h1) ev_c h2
  have two : ∀ {a : Str} {r : Bool} {H0 : Hp} {σ : L2.St}, σ[0]? = some (some (.str a)) → inV (.str a) [.str "packed", .str "deltas"] = r → EvT (tTest (tOp (rIn K false) (tVar 0) (tTup (tCons (tC (.str "packed")) (tCons (tC (.str "deltas")) tNil))))) σ H0 r := fun h1 h2 => et_test (ev_is (ev_inT (ev_var h1) (eu_tup (ea_cons ev_c (ea_cons ev_c ea_nil)) (by show 2 ≤ 100000; decide)) rfl rfl) (by rw [h2]))
  have yes : ∀ {H1 : Hp}, Ex H H1 → d xs ≠ .none → Q (.bl true) H1 := fun e hn => q true _ ⟨fun _ => hn, fun _ => rfl⟩ e
  have intsE : ∀ {σ : L2.St} {H1 : Hp} {i : Nat} {vs : List Nat}, σ[1]? = some (some (.ref a)) → Ex H H1 → (∀ x, wipe ((wipe σ vs).set i (some x)) vs = wipe σ vs) → (∀ x, ((wipe σ vs).set i (some x))[i]? = some (some x)) → Ev (tOp rEq (tCB (rLenS K) (tCons (tLc (iList K (tVar 1)) (gName i) (tNot (tB (tCall (sp__law_is_integer K) [] C8.E0 (tCons (tVar i) tNil)))) (tVar i) vs) tNil)) (tC (.int 0))) σ H1 (.bl (allInt xs)) := fun h0 e0 hw hv => by
    refine ev_is (v := .bl (decide (V.int ((given xs.length (fun i => !isInt (xs.getD i .non)) (fun i => xs.getD i .non)).length : Nat) = V.int 0))) (ev_op (ev_lenN (el_lcL (fun i => !isInt (xs.getD i .non)) (fun i => xs.getD i .non) (ev_var h0) (ex_l e0 hS) (by omega) hw (fun i x H1 e1 hi => ?_) (fun i x H1 e1 hi _ => ?_))) ev_c (rv_eq rfl)) (by rw [none_given]; rfl)
    · rw [getD_is hi]
      exact et_not (et_B (ec_isint (ev_var (hv x)) (hx.pl (List.mem_of_getElem? hi))))
    · rw [getD_is hi]
      exact ev_var (hv x)
  cases hf with
  | plain =>
    refine q_when (nx (r := false) rfl (by decide +kernel)) (fun hb => nomatch hb) fun _ H1 e1 => ?_
    refine q_when (two (r := false) rfl (by decide +kernel)) (fun hb => nomatch hb) fun _ H2 e2 => ?_
    exact s_ret (v := .bl true) ev_c fun H3 e3 => yes ((e1.trans e2).trans e3) fun h => nomatch (show PyData.tuple _ = PyData.none from h)
  | runs =>
    refine q_when (nx (r := false) rfl (by decide +kernel)) (fun hb => nomatch hb) fun _ H1 e1 => ?_
    refine q_when (two (r := false) rfl (by decide +kernel)) (fun hb => nomatch hb) fun _ H2 e2 => ?_
    exact s_ret (v := .bl true) ev_c fun H3 e3 => yes ((e1.trans e2).trans e3) fun h => nomatch (show PyData.tuple _ = PyData.none from h)
  | dictionary =>
    refine q_when (nx (r := false) rfl (by decide +kernel)) (fun hb => nomatch hb) fun _ H1 e1 => ?_
    refine q_when (two (r := false) rfl (by decide +kernel)) (fun hb => nomatch hb) fun _ H2 e2 => ?_
    exact s_ret (v := .bl true) ev_c fun H3 e3 => yes ((e1.trans e2).trans e3) fun h => nomatch (show PyData.tuple _ = PyData.none from h)
  | constant =>
    refine q_when (nx (r := true) rfl (by decide +kernel)) (fun _ H1 e1 => ?_) fun hb => nomatch hb
    have hS1 := ex_l e1 hS
    cases xs with
    | nil => exact s_ret (v := .bl (decide ((0 : Int) < (([] : List V).length : Nat)) && true)) (ev_andV (ev_op (ev_len (ev_var rfl) hS1) ev_c rv_I0) fun h => nomatch h) fun H2 e2 => q false H2 ⟨(fun h => nomatch h), fun h => absurd rfl h⟩ (e1.trans e2)
    | cons x0 r =>
      refine s_ret (v := .bl (decide ((0 : Int) < ((x0 :: r).length : Nat)) && allSame (x0 :: r))) (ev_andV (ev_op (ev_len (ev_var rfl) hS1) ev_c rv_I0) fun _ => ?_) fun H2 e2 => q _ H2 ?_ (e1.trans e2)
      · rw [all_same]
        refine ev_is (v := .bl (decide (V.int ((given (x0 :: r).length (fun i => !sameB ((x0 :: r).getD i .non) x0) (fun i => (x0 :: r).getD i .non)).length : Nat) = V.int 0))) (ev_op (ev_lenN (el_lcL (fun i => !sameB ((x0 :: r).getD i .non) x0) (fun i => (x0 :: r).getD i .non) (ev_var rfl) hS1 (by omega) (fun _ => rfl) (fun i x H2 e2 hi => ?_) (fun i x H2 e2 hi _ => ?_))) ev_c (rv_eq rfl)) (by rw [none_given (g := fun x => sameB x x0)])
        · rw [getD_is hi]
          have o1 := hx.ok (List.mem_of_getElem? hi)
          have o2 := hx.ok (x := x0) List.mem_cons_self
          exact et_test (ev_neD (ed_rk (ec_lrank (ev_var rfl) o1) o1) (ed_rk (ec_lrank (ev_op (ev_var rfl) ev_c (rv_ixL (ex_l e2 hS1) (atI_nat (j := 0) rfl))) o2) o2) (shaped_rk o1) (shaped_rk o2))
        · rw [getD_is hi]
          exact ev_var rfl
      · have h0 : decide ((0 : Int) < ((x0 :: r).length : Nat)) = true := by
          rw [decide_eq_true_eq, List.length_cons]
          omega
        rw [h0, Bool.true_and]
        unfold constD
        cases h : allSame (x0 :: r) with
        | true => exact ⟨(fun _ => by rw [if_neg (by show ¬ (false || !true) = true; decide)]; exact (fun h => nomatch h)), fun _ => rfl⟩
        | false => exact ⟨(fun h => nomatch h), fun h2 => absurd (if_pos (by show (false || !false) = true; decide)) h2⟩
  | packed =>
    refine q_when (nx (r := false) rfl (by decide +kernel)) (fun hb => nomatch hb) fun _ H1 e1 => ?_
    refine q_when (two (r := true) rfl (by decide +kernel)) (fun _ H2 e2 => ?_) fun hb => nomatch hb
    refine q_asg (intsE rfl (e1.trans e2) (fun _ => rfl) fun _ => rfl) fun H3 e3 => ?_
    refine s_ret (v := .bl (allInt xs && (true || false))) (ev_andV (ev_var rfl) fun _ => ev_orV (ev_is (ev_op (ev_var rfl) ev_c (rv_eq rfl)) (by decide +kernel)) fun h => nomatch h) fun H4 e4 => q _ H4 ?_ (((e1.trans e2).trans e3).trans e4)
    unfold packedD
    cases h : allInt xs with
    | true => exact ⟨(fun _ => by rw [if_neg (by decide)]; exact (fun h => nomatch h)), fun _ => rfl⟩
    | false => exact ⟨(fun h => nomatch h), fun h2 => absurd (if_pos rfl) h2⟩
  | deltas =>
    refine q_when (nx (r := false) rfl (by decide +kernel)) (fun hb => nomatch hb) fun _ H1 e1 => ?_
    refine q_when (two (r := true) rfl (by decide +kernel)) (fun _ H2 e2 => ?_) fun hb => nomatch hb
    refine q_asg (intsE rfl (e1.trans e2) (fun _ => rfl) fun _ => rfl) fun H3 e3 => ?_
    refine s_ret (v := .bl (allInt xs && (false || decide ((0 : Int) < (xs.length : Nat))))) (ev_andV (ev_var rfl) fun _ => ev_orV (ev_is (ev_op (ev_var rfl) ev_c (rv_eq rfl)) (by decide +kernel)) fun _ => ev_op (ev_len (ev_var rfl) (ex_l ((e1.trans e2).trans e3) hS)) ev_c rv_I0) fun H4 e4 => q _ H4 ?_ (((e1.trans e2).trans e3).trans e4)
    unfold deltasD
    cases xs with
    | nil => exact ⟨(fun h => by rw [Bool.and_eq_true] at h; exact nomatch h.2), fun h2 => absurd rfl h2⟩
    | cons x0 r =>
      have h0 : decide ((0 : Int) < ((x0 :: r).length : Nat)) = true := by
        rw [decide_eq_true_eq, List.length_cons]
        omega
      rw [h0]
      cases h : allInt (x0 :: r) with
      | true => exact ⟨(fun _ => by rw [if_neg (by show ¬ (false || !true) = true; decide)]; exact (fun h => nomatch h)), fun _ => rfl⟩
      | false => exact ⟨(fun h => nomatch h), fun h2 => absurd (if_pos (by show (false || !false) = true; decide)) h2⟩
end

/-! ### the turned list -/
def sp__law_turned (K : PySem.W.Frag) : Sp := fun vs H Q _ => ∃ (a : Addr) (xs : List V), vs = [.ref a] ∧ SqL K H a xs ∧ xs.length ≤ 40 ∧ (∀ x ∈ xs, DV x) ∧ ∀ p ys H', H p = none → Ex H H' → H' p = some (.lst ys) → VVs ys → ys ≠ xs → Q (.ref p) H'
theorem el_catN {σ : L2.St} {H : Hp} {ta tb : TE} {l : Addr} {xs ys : List V} (ha : Ev ta σ H (.ref l)) (h1 : H l = some (.lst xs)) (hb : EvL tb σ H ys) (hz : xs.length + ys.length ≤ 100000) : EvL (tOp rCat ta tb) σ H (xs ++ ys) := fun H1 e Q q =>
  ha H1 e _ fun H2 e2 => hb H2 (e.trans e2) _ fun b H3 _ e3 hb3 => ⟨l, b, xs, ys, rfl, rfl, ((e.trans e2).trans e3) _ _ h1, hb3, sz_of hz, fun p hp => q p _ (fresh_back (e2.trans e3) hp) ((e2.trans e3).trans (Ex.new hp)) upd_same⟩
theorem set_vv {xs : List V} {k : Nat} {i : Int} (hi : -1000000000000000 ≤ i ∧ i ≤ 1000000000000000) (h : ∀ x ∈ xs, DV x) (hl : xs.length ≤ 40) : VVs (xs.set k (.int i)) := by
  refine ⟨fun x hx => ?_, by rw [List.length_set]; omega, Nat.le_trans (List.length_filter_le _ _) (by rw [List.length_set]; exact hl)⟩
  rcases List.mem_or_eq_of_mem_set hx with h2 | h2
  · exact h x h2
  · rw [h2]; exact .int i hi
theorem set_ne {xs : List V} {k : Nat} {b : Bool} {i : Int} (h : xs[k]? = some (.bl b)) : xs.set k (.int i) ≠ xs := fun z => by
  have h2 : (xs.set k (.int i))[k]? = some (.int i) := by
    rw [List.getElem?_set, if_pos rfl, if_pos (List.getElem?_eq_some_iff.mp h).1]
  rw [z, h] at h2
  cases h2
section
variable {P : Program} {w : World} {K : PySem.W.Frag} {mg : Str → Option Value} {base : Heap}
theorem ok__law_turned (D : Dn K mg "_law_turned" s__law_turned ["values"]) (z_len : mg "len" = none) (z_list : mg "list" = none) (z_range : mg "range" = none) :
    C8.Cal P w K mg base 1 "_law_turned" (sp__law_turned K) [] := by
  refine cal_of D sc__law_turned (fun vs H Q E h => ?_) (fun f cdv A outer s H vs Q E hr h => ?_)
  · obtain ⟨_, _, rfl, _⟩ := h
    rfl
  refine ⟨_, (pss_cons (ps_set (i := 1) sc__law_turned.nd rfl (.inl rfl) (pe_callTy call_list_of (by rfl) z_list (by decide +kernel) (pa_cons (pv 0) pa_nil)))
    (pss_cons (ps_for PassesOwn.never rfl (pi_range1 rfl z_range (pa_cons (pe_callB call_len_seq (by rfl) z_len PySem.boot_len (pa_cons (pv 0) pa_nil)) pa_nil)) (pg_name (i := 2) sc__law_turned.nd rfl (.inl rfl))
      (pss_cons (ps_if (pt_cmpR op_isTF (pe_ix ix_list (pv 0) (pv 2) (fun _ _ => rfl)) pe_bl (nomark _))
      (pss_cons (ps_asg pe_int (pg_sub (pv 1) (pv 2) set_list))
    (pss_one (ps_ret (pv 1))))
      pss_nil)
    (pss_one (ps_if (pt_cmpR op_isTF (pe_ix ix_list (pv 0) (pv 2) (fun _ _ => rfl)) pe_bl (nomark _))
      (pss_cons (ps_asg pe_int (pg_sub (pv 1) (pv 2) set_list))
    (pss_one (ps_ret (pv 1))))
      pss_nil))))
    (pss_one (ps_ret (pe_op op_cat (pv 1) (pe_lst (pa_cons pe_non pa_nil))))))), ?_⟩
  obtain ⟨a, xs, rfl, hS, hz, hd, q⟩ := h
  refine q_asgL (el_list (ev_var rfl) hS) fun pt H1 hpt e1 h1 => ?_
  refine q_forR1 (n := ((xs.length : Nat) : Int)) (ea_cons (ev_len (ev_var rfl) (ex_l e1 hS)) ea_nil) ⟨by omega, by omega⟩ (fun i σ' H' => ∃ kv, σ' = [some (.ref a), some (.ref pt), kv] ∧ Ex H H' ∧ H' pt = some (.lst xs)) (fun H2 e2 => ⟨none, rfl, e1.trans e2, e2 _ _ h1⟩) (fun i σ' H' hi pv => ?_) fun σ' H' pv => ?_
  · obtain ⟨kv, rfl, e, hl⟩ := pv
    have hk : i < xs.length := by omega
    have hx := List.getElem?_eq_getElem hk
    generalize xs[i] = x at hx
    refine q_when (b := decide (x = .bl true)) (et_test (ev_op (ev_op (ev_var rfl) (ev_var rfl) (rv_ixL (ex_l e hS) (atI_nat hx))) ev_c rv_isT)) (fun hb H2 e2 => ?_) fun hb H2 e2 => ?_
    · have hb' : x = .bl true := of_decide_eq_true hb
      subst hb'
      refine q_setL (v := .int 1) (j := i) (e2 _ _ hl) ev_c (ev_var rfl) (ev_var rfl) hk fun H3 e3 => ?_
      exact s_ret (ev_var rfl) fun H4 e4 => q pt _ H4 hpt ((Ex.mut ((e.trans e2).trans e3) hpt).trans e4) (e4 _ _ upd_same) (set_vv (by omega) hd hz) (set_ne hx)
    refine s_when (b := decide (x = .bl false)) (et_test (ev_op (ev_op (ev_var rfl) (ev_var rfl) (rv_ixL (ex_l (e.trans e2) hS) (atI_nat hx))) ev_c rv_isT)) (fun hb H3 e3 => ?_) fun hb H3 e3 => ⟨_, rfl, (e.trans e2).trans e3, e3 _ _ (e2 _ _ hl)⟩
    have hb' : x = .bl false := of_decide_eq_true hb
    subst hb'
    refine q_setL (v := .int 0) (j := i) (e3 _ _ (e2 _ _ hl)) ev_c (ev_var rfl) (ev_var rfl) hk fun H4 e4 => ?_
    exact s_ret (ev_var rfl) fun H5 e5 => q pt _ H5 hpt ((Ex.mut (((e.trans e2).trans e3).trans e4) hpt).trans e5) (e5 _ _ upd_same) (set_vv (by omega) hd hz) (set_ne hx)
  · obtain ⟨kv, rfl, e, hl⟩ := pv
    refine s_retL (xs := xs ++ [.non]) (el_catN (ev_var rfl) hl (el_lst (ea_cons ev_c ea_nil) (by show 1 ≤ 100000; decide)) (by show xs.length + 1 ≤ 100000; omega)) fun p H2 hp e2 h2 => q p _ H2 (fresh_back e hp) (e.trans e2) h2 ⟨fun x hx => ?_, by rw [List.length_append]; show xs.length + 1 ≤ 41; omega, ?_⟩ fun z => ?_
    · rcases List.mem_append.mp hx with h | h
      · exact hd x h
      · rw [List.mem_singleton.mp h]; exact .non
    · rw [pres_app, pres_non, List.append_nil]
      exact Nat.le_trans (List.length_filter_le _ _) hz
    · have := congrArg List.length z
      rw [List.length_append] at this
      simp at this
end

/-! ### what is right -/
theorem bg_vDn {x : V} (h : DV x) : bgOk (vD x) = true ∧ bgB (vD x) ≤ 13000 ∧ (vD x).depth = 0 := by
  have hi : ∀ {i : Int}, i.natAbs ≤ 1152921504606846976 → bgOk (.int i) = true := fun {i} h => by
    refine decide_eq_true ?_
    by_cases h0 : i.natAbs = 0
    · rw [h0]; decide
    · have h2 : i.natAbs < 2 ^ 61 := Nat.lt_of_le_of_lt h (by decide)
      exact Nat.lt_trans ((Nat.log2_lt h0).mpr h2) (by decide)
  cases h with
  | non => exact ⟨rfl, Nat.le_refl _, rfl⟩
  | bl b => exact ⟨rfl, Nat.le_refl _, rfl⟩
  | int i h => exact ⟨hi (by omega), Nat.le_refl _, rfl⟩
  | str l hl hc =>
    refine ⟨strOk_S fun c h => signs_ok c (hc c h), ?_, rfl⟩
    show 10 * (SX.S l).length + 2 ≤ 13000
    rw [SX.S_len]
    omega
theorem bg_all : ∀ {xs : List V}, (∀ x ∈ xs, DV x) → bgOks (xs.map vD) = true ∧ bgBs (xs.map vD) ≤ 13002 * xs.length ∧ PyData.depthAll (xs.map vD) = 0
  | [], _ => ⟨rfl, Nat.le_refl _, rfl⟩
  | x :: r, h => by
    obtain ⟨a1, a2, a3⟩ := bg_vDn (h x List.mem_cons_self)
    obtain ⟨b1, b2, b3⟩ := bg_all fun y hy => h y (List.mem_cons_of_mem _ hy)
    refine ⟨?_, ?_, ?_⟩
    · show (bgOk (vD x) && bgOks (r.map vD)) = true
      rw [a1, b1]
      rfl
    · show bgB (vD x) + 2 + bgBs (r.map vD) ≤ _
      rw [List.length_cons]
      omega
    · show max (vD x).depth (PyData.depthAll (r.map vD)) = 0
      rw [a3, b3]
      rfl
section
variable {K : PySem.W.Frag} {σ : L2.St} {H : Hp} {ta te : TE} {xs : List V}
theorem ev_reprX (h : EvL te σ H xs) (hx : VVs xs) : Ev (tCB (rReprN K) (tCons te tNil)) σ H (.str (PyData.list (xs.map vD)).shown) := by
  obtain ⟨b1, b2, b3⟩ := bg_all hx.1
  have hz := hx.2
  refine ev_shownN (d := .list (xs.map vD)) (fun H1 e Q q => h H1 e _ fun p H2 hp e2 h2 => q (.ref p) H2 e2 (.lst (sq_of h2) (dps_vD fun x h => (hx.1 x h).pl))) (fun _ v H1 h => ?_) b1 ?_ ?_
  · cases h
    exact ⟨_, rfl⟩
  · show 4 + bgBs (xs.map vD) ≤ 4000000
    have h2 : bgBs (xs.map vD) ≤ 13002 * 41 := Nat.le_trans b2 (Nat.mul_le_mul_left _ hz.1)
    omega
  · show PyData.depthAll (xs.map vD) + 1 ≤ 60
    rw [b3]
    decide
theorem ev_reprY {p : Addr} (h : Ev te σ H (.ref p)) (hp : H p = some (.lst xs)) (hx : VVs xs) : Ev (tCB (rReprN K) (tCons te tNil)) σ H (.str (PyData.list (xs.map vD)).shown) := by
  obtain ⟨b1, b2, b3⟩ := bg_all hx.1
  have hz := hx.2
  refine ev_shownN (d := .list (xs.map vD)) (ed_val h (.lst (sq_of hp) (dps_vD fun x h => (hx.1 x h).pl))) (fun _ v H1 h => ?_) b1 ?_ ?_
  · cases h
    exact ⟨_, rfl⟩
  · show 4 + bgBs (xs.map vD) ≤ 4000000
    have h2 : bgBs (xs.map vD) ≤ 13002 * 41 := Nat.le_trans b2 (Nat.mul_le_mul_left _ hz.1)
    omega
  · show PyData.depthAll (xs.map vD) + 1 ≤ 60
    rw [b3]
    decide
end
theorem bg_bools : ∀ bs : List Bool, bgOks (bs.map PyData.bool) = true ∧ bgBs (bs.map PyData.bool) = 13002 * bs.length ∧ PyData.depthAll (bs.map PyData.bool) = 0
  | [] => ⟨rfl, rfl, rfl⟩
  | b :: r => by
    obtain ⟨h1, h2, h3⟩ := bg_bools r
    refine ⟨?_, ?_, ?_⟩
    · show (true && bgOks (r.map PyData.bool)) = true
      rw [h1]
      rfl
    · show 13000 + 2 + bgBs (r.map PyData.bool) = _
      rw [h2, List.length_cons]
      omega
    · show max 0 (PyData.depthAll (r.map PyData.bool)) = 0
      rw [h3]
      rfl
theorem ev_reprM {K : PySem.W.Frag} {σ : L2.St} {H : Hp} {te : TE} {pm : Addr} {bs : List Bool} (h : Ev te σ H (.ref pm)) (hp : H pm = some (.lst (bs.map V.bl))) (hl : bs.length ≤ 41) : Ev (tCB (rReprN K) (tCons te tNil)) σ H (.str (PyData.list (bs.map PyData.bool)).shown) := by
  obtain ⟨b1, b2, b3⟩ := bg_bools bs
  have hm : maskAt H (.ref pm) (some bs) := ⟨pm, rfl, hp⟩
  refine ev_shownN (d := .list (bs.map PyData.bool)) (ed_val h hm.dp) (fun _ v H1 h => ?_) b1 ?_ ?_
  · cases h
    exact ⟨_, rfl⟩
  · show 4 + bgBs (bs.map PyData.bool) ≤ 4000000
    omega
  · show PyData.depthAll (bs.map PyData.bool) + 1 ≤ 60
    rw [b3]
    decide
theorem in_mask (xs : List V) : inV (.bl true) ((xs.map fun x => decide (x = .non)).map V.bl) = (maskOf xs).isSome := by
  have e : inV (.bl true) ((xs.map fun x => decide (x = .non)).map V.bl) = xs.any fun x => decide (x = .non) := by
    unfold inV
    rw [List.any_map, List.any_map]
    have e2 : ∀ b : Bool, eqV (.bl b) (.bl true) = b := fun b => by cases b <;> decide
    congr 1
    funext x
    exact e2 _
  rw [e]
  unfold maskOf pres
  have key := List.length_filter_lt_length_iff_exists (l := xs) (p := fun x => !decide (x = V.non))
  cases h : xs.any fun x => decide (x = .non) with
  | true =>
    obtain ⟨x, hx, h2⟩ := List.any_eq_true.mp h
    rw [if_pos (key.mpr ⟨x, hx, by rw [h2]; decide⟩)]
    rfl
  | false =>
    rw [if_neg fun z => ?_]
    · rfl
    · obtain ⟨x, hx, h2⟩ := key.mp z
      have h3 : (xs.any fun x => decide (x = .non)) = true := List.any_eq_true.mpr ⟨x, hx, by
        cases h4 : decide (x = V.non) with
        | true => rfl
        | false => rw [h4] at h2; exact absurd rfl h2⟩
      rw [h] at h3
      exact nomatch h3
def sp__law_right (K : PySem.W.Frag) : Sp := fun vs H Q _ => ∃ (p : Addr) (fm : Str) (d : List V → PyData) (a : Addr) (xs : List V), vs = [.ref p, .str fm, .ref a] ∧ FormD fm d ∧ EncAt K H p xs.length (maskOf xs) (d (pres xs)) ∧ d (pres xs) ≠ .none ∧ H a = some (.lst xs) ∧ VVs xs ∧ ∀ H', Ex H H' → Q (.bl true) H'

--@SPLIT
theorem flat_bools : ∀ bs : List Bool, (bs.map V.bl).all flatV = true
  | [] => rfl
  | b :: r => by
    show (true && (r.map V.bl).all flatV) = true
    rw [flat_bools r]
    rfl
section
variable {P : Program} {w : World} {K : PySem.W.Frag} {mg : Str → Option Value} {base : Heap}
theorem ok__law_right (D : Dn K mg "_law_right" s__law_right ["told", "form", "values"]) (C_Encoded : ClsD K mg "Encoded" ["length", "mask", "body"]) (I_Encoded : OwnI K "Encoded") (c_Encoded__decoded : C8.Met P w K mg base 3 (clsAt K "Encoded") "decoded" (sp_Encoded__decoded K) []) (c_Encoded__form : Prp P w K mg base 1 (clsAt K "Encoded") "form" (sp_Encoded__form K)) (c__law_is_integer : C8.Cal P w K mg base 1 "_law_is_integer" (sp__law_is_integer K) []) (z_isinstance : mg "isinstance" = none) (z_len : mg "len" = none) (z_list : mg "list" = none) (z_repr : mg "repr" = none) (nd : base.NoDigits) :
    CalG P w K mg base 4 "_law_right" (sp__law_right K) := by
  refine calG_of D sc__law_right (fun vs H Q E h => ?_) (fun f cdv A outer s H vs Q E hr hgd h => ?_)
  · obtain ⟨_, _, _, _, _, rfl, _⟩ := h
    rfl
  refine ⟨_, (pss_cons (ps_if (PW.pt (pw_or (pt_not (pt_val (pe_callB (call_isOwn I_Encoded.ins I_Encoded.ki) (by rfl) z_isinstance (by decide +kernel) (pa_cons (pv 0) (pa_cons (C8.pe_gc rfl (gcls C_Encoded)) pa_nil))))) (pw_or (pt_cmpR op_ne (pe_pr c_Encoded__form hr (by decide) (pv 0) (by rfl)) (pv 1) (nomark _)) (pw_or1 (pt_not (pt_val (C8.pe_c c__law_is_integer hr (by decide) (by rfl) (pa_cons (pe_fld (pv 0) (by rfl)) pa_nil))))))))
      (pss_one (ps_ret pe_bl))
      pss_nil)
    (pss_cons (ps_setLc (i := 3) (own := [("value", 5)]) (g := gName 5) (tt := tYes) rfl sc__law_right.nd rfl rfl (sw_true rfl rfl rfl (by decide +kernel)) (pi_list (pv 2)) (blkOk_by (N := n__law_right) (sc := C8.fnScope s__law_right) (by decide +kernel)) (fun _ _ _ _ _ => pg_name (i := 5) sc__law_right.nd rfl (Or.inl rfl)) (fun _ _ _ _ _ => pts_nil) (fun _ _ _ _ _ => (pe_cmpR op_isN (pv 5) pe_non (nomark _))))
    (Evl.pss_cut (ps_if (pt_cmpR op_in_seq pe_bl (pv 3) (by with_unfolding_all rfl))
      (pss_one (ps_if (PW.pt (pw_or (pt_not (pt_val (pe_callB call_isi (by rfl) z_isinstance (by decide +kernel) (pa_cons (pe_fld (pv 0) (by rfl)) (pa_cons (pe_bltn (v := .ty "list") (u := .type "list") rfl z_list (by decide +kernel) rfl) pa_nil))))) (pw_or1 (pt_cmpR op_ne (pe_callB (call_reprN hgd (hu64 hr) nd) (by rfl) z_repr (by decide +kernel) (pa_cons (pe_fld (pv 0) (by rfl)) pa_nil)) (pe_callB (call_reprN hgd (hu64 hr) nd) (by rfl) z_repr (by decide +kernel) (pa_cons (pv 3) pa_nil)) (nomark _)))))
      (pss_one (ps_ret pe_bl))
      pss_nil))
      (pss_one (ps_if (pt_cmpR op_notN (pe_fld (pv 0) (by rfl)) pe_non (nomark _))
      (pss_one (ps_ret pe_bl))
      pss_nil)))
    (pss_cons (ps_set (i := 4) sc__law_right.nd rfl (.inl rfl) (C8.pe_mt0 c_Encoded__decoded hr (by decide) (pv 0)))
    (pss_one (ps_ret (pe_and (pe_cmpR op_eq (pe_fld (pv 0) (by rfl)) (pe_callB call_len_seq (by rfl) z_len PySem.boot_len (pa_cons (pv 2) pa_nil)) (nomark _)) (pe_and (pe_callB call_isi (by rfl) z_isinstance (by decide +kernel) (pa_cons (pv 4) (pa_cons (pe_bltn (v := .ty "list") (u := .type "list") rfl z_list (by decide +kernel) rfl) pa_nil))) (pe_one (pe_cmpR op_eq (pe_callB (call_reprN hgd (hu64 hr) nd) (by rfl) z_repr (by decide +kernel) (pa_cons (pv 4) pa_nil)) (pe_callB (call_reprN hgd (hu64 hr) nd) (by rfl) z_repr (by decide +kernel) (pa_cons (pv 2) pa_nil)) (nomark _))))))))))), ?_⟩
  obtain ⟨p, fm, d, a, xs, rfl, hf, hE, hn, ha, hx, q⟩ := h
  have hz := hx.2
  have hE0 := hE
  obtain ⟨dx, mv, bv, hp, hm, hd⟩ := hE0
  have cl := C_Encoded.cl
  refine q_when (b := !true || (!decide (V.str fm = V.str fm) || !true)) (et_or (et_not (et_B fun H1 e1 Q k => ⟨_, rfl, _, rfl, .inl ⟨p, dx, _, rfl, e1 _ _ hp, k H1 (Ex.refl H1)⟩⟩)) fun _ => et_or (et_test (ev_op ?_ (ev_var rfl) (rv_ne rfl))) fun _ => et_not (et_B (ec_isint (ev_fld (ev_var rfl) hp cl C_Encoded.na.1 encF_len) (.int _)))) (fun hb => by simp at hb) fun _ H1 e1 => ?_
  · exact fun H8 e8 Q k => ⟨.ref p, rfl, p, dx, _, rfl, e8 _ _ hp, p, fm, d, xs.length, maskOf xs, pres xs, rfl, hf, hE.ex e8, hn, fun H9 e9 => k H9 e9⟩
  refine q_asgL (xs := (xs.map fun x => decide (x = .non)).map V.bl) ?_ fun pm H2 hpm e2 h2 => ?_
  · rw [List.map_map]
    exact el_mapL (k := fun x => x) (ev_var rfl) (by rw [List.map_id']; exact sq_of (e1 _ _ ha)) (by omega) (fun _ => rfl) fun x H6 e6 hm => ev_op (ev_var rfl) ev_c rv_isN
  have x2 := e1.trans e2
  have fm_ : ∀ {σ : L2.St} {H0 : Hp}, σ[0]? = some (some (.ref p)) → Ex H H0 → Ev (tFld K (tVar 0) "mask") σ H0 mv := fun h0 e0 => ev_fld (ev_var h0) (e0 _ _ hp) cl C_Encoded.na.2.1 encF_mask
  refine q_cut (M := fun σ' H' => σ' = [some (.ref p), some (.str fm), some (.ref a), some (.ref pm), none, none] ∧ Ex H H') ?_ fun σ' H' pv => ?_
  · refine s_if (b := (maskOf xs).isSome) (et_test (ev_is (ev_op ev_c (ev_var rfl) (rv_isL (sq_of h2) rfl (flat_bools _))) (by rw [in_mask]))) (fun hb H3 e3 => ?_) fun hb H3 e3 => ?_
    · obtain ⟨bs, hbs⟩ := Option.isSome_iff_exists.mp hb
      have hbs2 : bs = xs.map fun x => decide (x = .non) := by
        unfold maskOf at hbs
        split at hbs
        · exact (Option.some.inj hbs).symm
        · cases hbs
      rw [hbs] at hm
      obtain ⟨pm2, rfl, hpm2⟩ := hm
      have hl : bs.length ≤ 41 := by rw [hbs2, List.length_map]; exact hz.1
      refine s_when (b := !true || !decide (V.str (PyData.list (bs.map PyData.bool)).shown = V.str (PyData.list (bs.map PyData.bool)).shown)) (et_or (et_not (et_B (ev_isi' (T := "list") (fm_ rfl (x2.trans e3)) (tx_lst ((x2.trans e3) _ _ hpm2)) (by decide +kernel)))) fun _ => et_test (ev_op (ev_reprM (fm_ rfl (x2.trans e3)) ((x2.trans e3) _ _ hpm2) hl) (ev_reprM (ev_var rfl) (by rw [e3 _ _ h2, hbs2]) hl) (rv_ne rfl))) (fun hb => by simp at hb) fun _ H4 e4 => ⟨rfl, (x2.trans e3).trans e4⟩
    · have hbs : maskOf xs = none := Option.not_isSome_iff_eq_none.mp (by rw [hb]; decide)
      rw [hbs] at hm
      obtain rfl : mv = .non := hm
      exact s_when (b := !decide (V.non = .non)) (et_test (ev_op (fm_ rfl (x2.trans e3)) ev_c rv_notN)) (fun hb => nomatch hb) fun _ H4 e4 => ⟨rfl, (x2.trans e3).trans e4⟩
  · obtain ⟨rfl, e3⟩ := pv
    have noD : (encF xs.length mv bv).lookup ("decoded" : Str) = none := encF_no (by decide +kernel) (by decide +kernel) (by decide +kernel)
    refine q_asgL (xs := xs) (fun H8 e8 Q k => ⟨.ref p, rfl, p, dx, _, rfl, (e3.trans e8) _ _ hp, noD, p, fm, d, xs, rfl, hf, hE.ex (e3.trans e8), hn, hx, fun p H9 hp9 e9 h9 => k p H9 hp9 e9 h9⟩) fun pb H4 hpb e4 h4 => ?_
    have x4 := e3.trans e4
    exact s_ret (v := .bl (decide (V.int (xs.length : Nat) = V.int (xs.length : Nat)) && (true && decide (V.str (PyData.list (xs.map vD)).shown = V.str (PyData.list (xs.map vD)).shown)))) (ev_andV (ev_op (ev_fld (ev_var rfl) (x4 _ _ hp) cl C_Encoded.na.1 encF_len) (ev_len (ev_var rfl) (sq_of (x4 _ _ ha))) (rv_eq rfl)) fun _ => ev_andV (ev_isi' (T := "list") (ev_var rfl) (tx_lst h4) (by decide +kernel)) fun _ => ev_op (ev_reprY (ev_var rfl) h4 hx) (ev_reprY (ev_var rfl) (x4 _ _ ha) hx) (rv_eq rfl)) fun H5 e5 => by
      rw [decide_eq_true rfl, decide_eq_true rfl]
      exact q H5 (x4.trans e5)
end

--@SPLIT
/-! ### the law -/
theorem mask_map : ∀ {xs ys : List V}, (xs.map fun x => decide (x = V.non)) = (ys.map fun x => decide (x = V.non)) → pres xs = pres ys → xs = ys
  | [], [], _, _ => rfl
  | [], _ :: _, h, _ => nomatch h
  | _ :: _, [], h, _ => nomatch h
  | x :: r, y :: t, h, hp => by
    have h2 := List.cons.inj h
    have ex : pres (x :: r) = pres [x] ++ pres r := pres_app [x] r
    have ey : pres (y :: t) = pres [y] ++ pres t := pres_app [y] t
    rw [ex, ey] at hp
    by_cases hx : x = .non
    · have hy : y = .non := of_decide_eq_true ((show decide (x = V.non) = decide (y = V.non) from h2.1).symm.trans (decide_eq_true hx))
      subst hx hy
      rw [pres_non, List.nil_append, List.nil_append] at hp
      rw [mask_map h2.2 hp]
    · have hy : ¬ y = .non := of_decide_eq_false ((show decide (x = V.non) = decide (y = V.non) from h2.1).symm.trans (decide_eq_false hx))
      rw [pres_one hx, pres_one hy] at hp
      have h3 := List.cons.inj hp
      rw [h3.1, mask_map h2.2 h3.2]
theorem pres_self {xs : List V} (h : ¬ (pres xs).length < xs.length) : pres xs = xs := (List.filter_sublist (l := xs)).eq_of_length_le (by show xs.length ≤ (pres xs).length; omega)
/-- length, mask and present values tell the list -/
theorem mask_tell {xs ys : List V} (hm : maskOf xs = maskOf ys) (hp : pres xs = pres ys) : xs = ys := by
  unfold maskOf at hm
  by_cases h1 : (pres xs).length < xs.length
  · rw [if_pos h1] at hm
    by_cases h2 : (pres ys).length < ys.length
    · rw [if_pos h2] at hm
      exact mask_map (Option.some.inj hm) hp
    · rw [if_neg h2] at hm
      cases hm
  · rw [if_neg h1] at hm
    by_cases h2 : (pres ys).length < ys.length
    · rw [if_pos h2] at hm
      cases hm
    · rw [← pres_self h1, hp, pres_self h2]
theorem forms_six {i : Nat} {fm : Str} (h : formsS[i]? = some fm) : i < 6 := (List.getElem?_eq_some_iff.mp h).1
theorem form_new {i : Nat} {fm : Str} (h : formsS[i]? = some fm) : fm ∉ formsS.take i := by
  have key : ∀ j, j < 6 → formsS.getD j "" ∉ formsS.take j := by decide +kernel
  have := key i (forms_six h)
  rw [List.getD_eq_getElem?_getD, h] at this
  exact this
def needN : Nat → Nat
  | 0 => 0
  | 1 => 1
  | 2 => 1
  | 3 => 2
  | _ => 3
theorem need_up {i : Nat} : needN (i + 1) ≤ needN i + 1 := by
  match i with
  | 0 => decide
  | 1 => decide
  | 2 => decide
  | 3 => decide
  | n + 4 => show 3 ≤ 3 + 1; decide
theorem need_no {i : Nat} {fm : Str} {d : List V → PyData} {xs : List V} (h : formsS[i]? = some fm) (hf : FormD fm d) (hn : d xs = .none) : needN (i + 1) = needN i := by
  have key : ∀ j, j < 6 → (formsS.getD j "" = "constant" ∨ formsS.getD j "" = "packed" ∨ formsS.getD j "" = "deltas") → needN (j + 1) = needN j := by decide +kernel
  have := key i (forms_six h)
  rw [List.getD_eq_getElem?_getD, h] at this
  cases hf with
  | plain => exact nomatch hn
  | constant => exact this (.inl rfl)
  | runs => exact nomatch hn
  | dictionary => exact nomatch hn
  | packed => exact this (.inr (.inl rfl))
  | deltas => exact this (.inr (.inr rfl))
theorem heads_ne {fm fm2 : Str} {d d2 : List V → PyData} {xs ys : List V} (hf : FormD fm d) (hf2 : FormD fm2 d2) (hn : d xs ≠ .none) (hn2 : d2 ys ≠ .none) (h : fm ≠ fm2) : d xs ≠ d2 ys := fun z => by
  obtain ⟨ds, e1⟩ := form_head hf hn
  obtain ⟨es, e2⟩ := form_head hf2 hn2
  rw [e1, e2] at z
  exact h (PyData.str.inj (List.cons.inj (PyData.tuple.inj z)).1)
theorem forms_all2 {i : Nat} {fm : Str} (h : formsS[i]? = some fm) : ∃ d, FormD fm d := by
  have hm := List.mem_of_getElem? h
  simp only [formsS, List.mem_cons, List.not_mem_nil, or_false] at hm
  rcases hm with rfl | rfl | rfl | rfl | rfl | rfl
  · exact ⟨_, .plain⟩
  · exact ⟨_, .constant⟩
  · exact ⟨_, .runs⟩
  · exact ⟨_, .dictionary⟩
  · exact ⟨_, .packed⟩
  · exact ⟨_, .deltas⟩
/-- an encoded column that a change of q does not touch -/
def EncP (K : PySem.W.Frag) (q : Addr) (H : Hp) (p : Addr) (n : Nat) (mk : Option (List Bool)) (dt : PyData) : Prop := ∃ dx mv bv, H p = some (.ins (clsAt K "Encoded") dx (encF n mv bv)) ∧ maskAt H mv mk ∧ Dp K H bv dt ∧ mv ≠ .ref q
section
variable {K : PySem.W.Frag} {H H' H0 : Hp} {p q : Addr} {n : Nat} {mk : Option (List Bool)} {dt : PyData}
theorem EncP.at (h : EncP K q H p n mk dt) : EncAt K H p n mk dt := by
  obtain ⟨dx, mv, bv, h1, h2, h3, _⟩ := h
  exact ⟨dx, mv, bv, h1, h2, h3⟩
theorem EncP.ex (h : EncP K q H p n mk dt) (e : Ex H H') : EncP K q H' p n mk dt := by
  obtain ⟨dx, mv, bv, h1, h2, h3, h4⟩ := h
  exact ⟨dx, mv, bv, e _ _ h1, h2.ex e, ex_dp e h3, h4⟩
theorem EncF.pp {o : HO} (h : EncF K H0 H p n mk dt) (hq : H0 q = some o) : EncP K q H p n mk dt := by
  obtain ⟨dx, mv, bv, h1, h2, h3, h4⟩ := h
  exact ⟨dx, mv, bv, h1, h2, h3, fun z => by rw [h4 q z] at hq; cases hq⟩
theorem EncP.upd {ys zs : List V} (h : EncP K q H p n mk dt) (hq : H q = some (.lst ys)) (hn : noL dt = true) : EncP K q (upd H q (.lst zs)) p n mk dt := by
  obtain ⟨dx, mv, bv, h1, h2, h3, h4⟩ := h
  refine ⟨dx, mv, bv, by rw [upd_ne (fun z => by rw [z, hq] at h1; cases h1)]; exact h1, ?_, dp_upd hq hn h3, h4⟩
  cases mk with
  | none => exact h2
  | some bs =>
    obtain ⟨pm, rfl, hpm⟩ := h2
    exact ⟨pm, rfl, by rw [upd_ne (fun z => h4 (by rw [z]))]; exact hpm⟩
end
theorem noLs_of : ∀ {ds : List PyData}, (∀ z ∈ ds, noL z = true) → noLs ds = true
  | [], _ => rfl
  | z :: r, h => by
    show (noL z && noLs r) = true
    rw [h z List.mem_cons_self, noLs_of fun y hy => h y (List.mem_cons_of_mem _ hy)]
    rfl
theorem bt_noL : ∀ {n : Nat} {d : PyData}, Bt n d → noL d = true
  | 0, d, h => by
    obtain ⟨x, hx, rfl⟩ := h
    exact noL_vD _
  | n + 1, d, h => by
    rcases h with h | ⟨ds, rfl, _, h3⟩
    · obtain ⟨x, hx, rfl⟩ := h
      exact noL_vD _
    · show noLs ds = true
      exact noLs_of fun z hz => bt_noL (h3 z hz)
structure MadeOk (K : PySem.W.Frag) (q : Addr) (H : Hp) (xs : List V) (i : Nat) (t : Addr × Str × (List V → PyData)) : Prop where
  fm : FormD t.2.1 t.2.2
  at_ : EncP K q H t.1 xs.length (maskOf xs) (t.2.2 (pres xs))
  ne : t.2.2 (pres xs) ≠ .none
  tk : t.2.1 ∈ formsS.take i
theorem MadeOk.up {K : PySem.W.Frag} {q : Addr} {H H' : Hp} {xs : List V} {i : Nat} {t : Addr × Str × (List V → PyData)} (h : MadeOk K q H xs i t) (e : Ex H H') : MadeOk K q H' xs i t := ⟨h.fm, h.at_.ex e, h.ne, h.tk⟩
theorem MadeOk.next {K : PySem.W.Frag} {q : Addr} {H : Hp} {xs : List V} {i : Nat} {t : Addr × Str × (List V → PyData)} (h : MadeOk K q H xs i t) : MadeOk K q H xs (i + 1) t := ⟨h.fm, h.at_, h.ne, by
  rw [List.take_add_one]
  exact List.mem_append_left _ h.tk⟩
theorem q_callS {K : PySem.W.Frag} {σ : L2.St} {H : Hp} {D : Ends} {tz : TS} {sp : Sp} {dvs vs : List V} {E : XK} {tr : TA} {g : TG} (h : EvA tr σ H vs) (k : ∀ H1, Ex H H1 → sp (vs ++ dvs) H1 (fun x H2 => g x σ H2 (tz D)) E) : tSeq (tAsg (tCall sp dvs E tr) g) tz D σ H := h H (Ex.refl H) _ fun H1 e1 => k H1 e1
section
variable {K : PySem.W.Frag} {σ : L2.St} {H : Hp} {ta tb : TE} {E : XK}
theorem EncAt.b {p : Addr} {n : Nat} {mk : Option (List Bool)} {fm : Str} {d : List V → PyData} {ps : List V} (h : EncAt K H p n mk (d ps)) (hf : FormD fm d) (hx : PVs ps) (hn : d ps ≠ .none) : EncB K H p n mk (d ps) := ⟨h, bt_form hf hx hn⟩
theorem eq_enc {pt p2 : Addr} {n n2 : Nat} {mk mk2 : Option (List Bool)} {dt dt2 : PyData} {Q : VK} (h1 : EncB K H pt n mk dt) (h2 : EncB K H p2 n2 mk2 dt2) (k : ∀ b H', (b = true ↔ n = n2 ∧ mk = mk2 ∧ dt = dt2) → Ex H H' → Q (.bl b) H') : rEqOwn (clsAt K "Encoded") (sp_Encoded____eq__ K) (.ref pt) (.ref p2) H Q := by
  obtain ⟨⟨dx, mv, bv, hp, hr1⟩, hB⟩ := h1
  obtain ⟨⟨dx2, mv2, bv2, hp2, hr2⟩, hB2⟩ := h2
  exact ⟨pt, dx, _, rfl, hp, .inl ⟨p2, dx2, _, rfl, hp2⟩, pt, .ref p2, n, mk, dt, rfl, ⟨⟨dx, mv, bv, hp, hr1⟩, hB⟩, .inr ⟨p2, n2, mk2, dt2, rfl, ⟨⟨dx2, mv2, bv2, hp2, hr2⟩, hB2⟩, fun b H' hb e => ⟨⟨b, rfl⟩, k b H' hb e⟩⟩⟩
theorem ev_encV {pt p2 : Addr} {n n2 : Nat} {mk mk2 : Option (List Bool)} {dt dt2 : PyData} (ha : Ev ta σ H (.ref pt)) (hb : Ev tb σ H (.ref p2)) (h1 : EncB K H pt n mk dt) (h2 : EncB K H p2 n2 mk2 dt2) (hne : ¬ (n = n2 ∧ mk = mk2 ∧ dt = dt2)) : Ev (tOp (rEqOwn (clsAt K "Encoded") (sp_Encoded____eq__ K)) ta tb) σ H (.bl false) := fun H1 e Q q =>
  ha H1 e _ fun H2 e2 => hb H2 (e.trans e2) _ fun H3 e3 => eq_enc ⟨h1.1.ex ((e.trans e2).trans e3), h1.2⟩ ⟨h2.1.ex ((e.trans e2).trans e3), h2.2⟩ fun b H' hb e' => by
    cases b with
    | true => exact absurd (hb.mp rfl) hne
    | false => exact q H' ((e2.trans e3).trans e')
end
section
variable {P : Program} {w : World} {K : PySem.W.Frag} {mg : Str → Option Value} {base : Heap}
theorem ok_law {fa : Addr} {s : Shared} {H : Hp} {a : Addr} {ns : List Int} {cdv : Value} (C_Encoded : ClsD K mg "Encoded" ["length", "mask", "body"]) (I_Encoded : OwnI K "Encoded") (c_Encoded____eq__ : C8.Met P w K mg base 9 (clsAt K "Encoded") "__eq__" (sp_Encoded____eq__ K) []) (c__law_possible : C8.Cal P w K mg base 2 "_law_possible" (sp__law_possible K) []) (c__law_right : CalG P w K mg base 4 "_law_right" (sp__law_right K)) (c__law_turned : C8.Cal P w K mg base 1 "_law_turned" (sp__law_turned K) []) (c__law_values : C8.Cal P w K mg base 4 "_law_values" (sp__law_values K) []) (c_encode_as : C8.Cal P w K mg base 6 "encode_as" (sp_encode_as K) []) (z_len : mg "len" = none) (z_list : mg "list" = none) (z_repr : mg "repr" = none) {p_FORMS : Addr} (g_FORMS : ∃ u, mg "FORMS" = some u ∧ RelV (.ref p_FORMS) u) (h_FORMS : ∀ H : Hp, SqT K H p_FORMS (formsS.map V.str)) (nd : base.NoDigits) (h63 : ns.length ≤ 63) (hS : SqL K H a (ns.map V.int))
    (hr : Room 9 (callerA.deeper (envOfC "law" (C8.fnScope s_law) s.heap.objs.size fa cdv))) :
    ∃ t, PSs (cxOf C8.CX0 P w K mg base n_law "law" (C8.fnScope s_law) fa cdv callerA [] s H C8.E0).nox (C8.fnBody s_law) t ∧ t { nx := fun _ _ => V.non = .bl true, rt := fun v _ => v = .bl true } (start n_law [.ref a]) H := by
  refine ⟨_, (pss_cons (ps_set (i := 1) sc_law.nd rfl (.inl rfl) (C8.pe_c c__law_values hr (by decide) (by rfl) (pa_cons (pv 0) pa_nil)))
    (pss_cons (ps_setLc (i := 2) (own := [("value", 9)]) (g := gName 9) rfl sc_law.nd rfl rfl (sw_true rfl rfl rfl (by decide +kernel)) (pi_list (pv 1)) (blkOk_by (N := n_law) (sc := C8.fnScope s_law) (by decide +kernel)) (fun _ _ _ _ _ => pg_name (i := 9) sc_law.nd rfl (Or.inl rfl)) (fun _ _ _ _ _ => (pts_one (pt_cmpR op_notN (pv 9) pe_non (nomark _)))) (fun _ _ _ _ _ => (pv 9)))
    (pss_cons (ps_set (i := 3) sc_law.nd rfl (.inl rfl) (pe_lst pa_nil))
    (pss_cons (ps_for PassesOwn.never rfl (pi_tup (C8.pe_gc rfl g_FORMS)) (pg_name (i := 4) sc_law.nd rfl (.inl rfl))
      (pss_cons (ps_set (i := 5) sc_law.nd rfl (.inl rfl) (pe_callTy call_list_of (by rfl) z_list (by decide +kernel) (pa_cons (pv 1) pa_nil)))
    (pss_cons (ps_set (i := 6) sc_law.nd rfl (.inl rfl) (C8.pe_c c_encode_as hr (by decide) (by rfl) (pa_cons (pv 4) (pa_cons (pv 5) pa_nil))))
    (pss_cons (ps_if (pt_cmpR op_ne (pe_callB (call_reprN rfl (hu64 hr) nd) (by rfl) z_repr (by decide +kernel) (pa_cons (pv 5) pa_nil)) (pe_callB (call_reprN rfl (hu64 hr) nd) (by rfl) z_repr (by decide +kernel) (pa_cons (pv 1) pa_nil)) (nomark _))
      (pss_one (ps_ret pe_bl))
      pss_nil)
    (pss_one (ps_if (pt_not (pt_val (C8.pe_c c__law_possible hr (by decide) (by rfl) (pa_cons (pv 4) (pa_cons (pv 2) pa_nil)))))
      (pss_one (ps_if (pt_cmpR op_notN (pv 6) pe_non (nomark _))
      (pss_one (ps_ret pe_bl))
      pss_nil))
      (pss_cons (ps_if (PW.pt (pw_or (pt_not (pt_val (pe_cG c__law_right hr (by decide) rfl (by rfl) (pa_cons (pv 6) (pa_cons (pv 4) (pa_cons (pv 1) pa_nil)))))) (pw_or1 (pt_not (pt_cmpR (op_eqOwn c_Encoded____eq__ hr (by decide) I_Encoded.ni) (pv 6) (C8.pe_c c_encode_as hr (by decide) (by rfl) (pa_cons (pv 4) (pa_cons (pe_callTy call_list_of (by rfl) z_list (by decide +kernel) (pa_cons (pv 1) pa_nil)) pa_nil))) (nomark _))))))
      (pss_one (ps_ret pe_bl))
      pss_nil)
    (Evl.pss_cut (ps_set (i := 7) sc_law.nd rfl (.inl rfl) (C8.pe_c c_encode_as hr (by decide) (by rfl) (pa_cons (pv 4) (pa_cons (C8.pe_c c__law_turned hr (by decide) (by rfl) (pa_cons (pv 1) pa_nil)) pa_nil))))
    (pss_cons (ps_if (PW.pt (pw_and (pt_cmpR op_notN (pv 7) pe_non (nomark _)) (pw_and1 (pt_cmpR (op_eqOwn c_Encoded____eq__ hr (by decide) I_Encoded.ni) (pv 6) (pv 7) (nomark _)))))
      (pss_one (ps_ret pe_bl))
      pss_nil)
    (pss_cons (ps_for PassesOwn.never rfl (pi_list (pv 3)) (pg_name (i := 8) sc_law.nd rfl (.inl rfl))
      (pss_one (ps_if (pt_cmpR (op_eqOwn c_Encoded____eq__ hr (by decide) I_Encoded.ni) (pv 6) (pv 8) (nomark _))
      (pss_one (ps_ret pe_bl))
      pss_nil)))
    (pss_one (ps_expr (pe_bm PySem.F.plainAttrs_list PySem.F.slot_list_append PySem.F.type_list_append mt_append (pv 3) (pa_cons (pv 6) pa_nil))))))))))))))
    (pss_one (ps_ret (pe_and (pe_cmpR op_ge (pe_callB call_len_seq (by rfl) z_len PySem.boot_len (pa_cons (pv 3) pa_nil)) pe_int (nomark _)) (pe_one (pe_not (pe_cmpR (op_eqOwn c_Encoded____eq__ hr (by decide) I_Encoded.ni) (pe_ix ix_list (pv 3) pe_int (fun _ _ => rfl)) pe_int (nomark _))))))))))), ?_⟩
  refine q_callS (K := K) (ea_cons (ev_var rfl) ea_nil) fun H2 e2 => ⟨a, ns, rfl, ex_l e2 hS, h63, fun pv xs H3 hpv e3 h3 hx hz40 => ?_⟩
  have hz := hx.2
  have hpx := pres_pv hx
  have getD_is : ∀ {i : Nat} {x : V}, xs[i]? = some x → xs.getD i .non = x := fun hi => by rw [List.getD_eq_getElem?_getD, hi]; rfl
  refine q_asgL (xs := pres xs) ?_ fun pp H4 hpp e4 h4 => ?_
  · unfold pres
    rw [← given_filter (g := fun x => !decide (x = .non))]
    refine el_lcL _ _ (ev_var rfl) (sq_of h3) (by omega) (fun _ => rfl) (fun i x H1 e1 hi => ?_) (fun i x H1 e1 hi _ => ?_)
    · rw [getD_is hi]
      walk_at "et"
    · rw [getD_is hi]
      exact ev_var rfl
  refine q_asgL (el_lst ea_nil (by decide)) fun pm H5 hpm e5 h5 => ?_
  have x5 := e4.trans e5
  refine q_forT (xs := formsS.map V.str) ev_c (h_FORMS _) (fun i σ' H' => ∃ fv gv tv uv ov ms, σ' = [some (.ref a), some (.ref pv), some (.ref pp), some (.ref pm), fv, gv, tv, uv, ov, none] ∧ Ex H4 H' ∧ H' pm = some (.lst (ms.map fun t : Addr × Str × (List V → PyData) => V.ref t.1)) ∧ (∀ t ∈ ms, MadeOk K pm H' xs i t) ∧ needN i ≤ ms.length ∧ ms.length ≤ i) (fun H6 e6 => ⟨none, none, none, none, none, [], rfl, e5.trans e6, e6 _ _ h5, (fun t h => by cases h), Nat.le_refl _, Nat.le_refl _⟩) (fun i σ' H' _ pv => h_FORMS _) (fun i x σ' H' hi pv' => ?_) fun σ' H' pv' => ?_
  · obtain ⟨fv, gv, tv, uv, ov, ms, rfl, e6, h6, hok, hneed, hmost⟩ := pv'
    rw [List.getElem?_map] at hi
    obtain ⟨fm, hfm, rfl⟩ := Option.map_eq_some_iff.mp hi
    obtain ⟨d, hf⟩ := forms_all2 hfm
    have hi6 := forms_six hfm
    have g3 : ∀ {H0 : Hp}, Ex H' H0 → H0 pv = some (.lst xs) := fun e => (e6.trans e) _ _ (e4 _ _ h3)
    have g4 : ∀ {H0 : Hp}, Ex H' H0 → H0 pp = some (.lst (pres xs)) := fun e => (e6.trans e) _ _ h4
    refine q_asgL (el_list (ev_var rfl) (sq_of (g3 (Ex.refl _)))) fun pg H7 hpg e7 h7 => ?_
    refine q_callS (K := K) (ea_cons (ev_var rfl) (ea_cons (ev_var rfl) ea_nil)) fun H8 e8 => ⟨fm, d, pg, xs, rfl, hf, sq_of (e8 _ _ h7), hx, fun hn H9 e9 => ?_, fun hn pt H9 hpt e9 hEf => ?_⟩
    · have x9 := (e7.trans e8).trans e9
      refine q_when (b := !decide (V.str (PyData.list (xs.map vD)).shown = V.str (PyData.list (xs.map vD)).shown)) (et_test (ev_op (ev_reprY (ev_var rfl) ((e8.trans e9) _ _ h7) hx) (ev_reprY (ev_var rfl) (g3 x9) hx) (rv_ne rfl))) (fun hb => by simp at hb) fun _ Ha ea => ?_
      have xa := x9.trans ea
      refine s_if (b := !false) (et_not (et_B (ev_call (ea_cons (ev_var rfl) (ea_cons (ev_var rfl) ea_nil)) fun H1 e Q q E => ⟨fm, d, pp, pres xs, rfl, hf, sq_of (g4 (xa.trans e)), hpx, fun b H2 hb e2 => by
        cases b with
        | false => exact q H2 e2
        | true => exact absurd hn (hb.mp rfl)⟩))) (fun _ Hb eb => ?_) fun h => nomatch h
      refine s_when (b := !decide (V.non = .non)) (by walk_at "et") (fun hb => nomatch hb) fun _ Hc ec => ?_
      have xc := (xa.trans eb).trans ec
      refine ⟨_, _, _, _, _, ms, rfl, e6.trans xc, xc _ _ h6, fun t ht => ((hok t ht).up xc).next, ?_, by omega⟩
      rw [need_no hfm hf hn]
      exact hneed
    · have x9 := (e7.trans e8).trans e9
      have x8 := e7.trans e8
      have hE : EncAt K H9 pt xs.length (maskOf xs) (d (pres xs)) := hEf.at
      refine q_when (b := !decide (V.str (PyData.list (xs.map vD)).shown = V.str (PyData.list (xs.map vD)).shown)) (et_test (ev_op (ev_reprY (ev_var rfl) ((e8.trans e9) _ _ h7) hx) (ev_reprY (ev_var rfl) (g3 x9) hx) (rv_ne rfl))) (fun hb => by simp at hb) fun _ Ha ea => ?_
      have xa := x9.trans ea
      refine s_if (b := !true) (et_not (et_B (ev_call (ea_cons (ev_var rfl) (ea_cons (ev_var rfl) ea_nil)) fun H1 e Q q E => ⟨fm, d, pp, pres xs, rfl, hf, sq_of (g4 (xa.trans e)), hpx, fun b H2 hb e2 => by
        rw [hb.mpr hn]
        exact q H2 e2⟩))) (fun h => nomatch h) fun _ Hb eb => ?_
      have xb := xa.trans eb
      have eE := ea.trans eb
      refine q_when (b := !true || !true) (et_or (et_not (et_B ?_)) fun _ => et_not (et_test ?_)) (fun hb => by simp at hb) fun _ Hc ec => ?_
      · exact ev_call (ea_cons (ev_var rfl) (ea_cons (ev_var rfl) (ea_cons (ev_var rfl) ea_nil))) fun H1 e Q q E => ⟨pt, fm, d, pv, xs, rfl, hf, hE.ex (eE.trans e), hn, g3 (xb.trans e), hx, q⟩
      · exact fun H1 e1 Q k => ⟨.ref pt, rfl, .str fm, rfl, (el_list (ev_var rfl) (sq_of (g3 (xb.trans e1)))) H1 (Ex.refl H1) _ fun pl H20 hpl e20 h20 => ⟨fm, d, pl, xs, rfl, hf, sq_of h20, hx, fun hn' => absurd hn' hn, fun _ p2 H30 hp2 e30 hE2 => eq_enc ((hE.ex ((eE.trans e1).trans (e20.trans e30))).b hf hpx hn) (hE2.at.b hf hpx hn) fun b H40 hb e40 => by
          rw [hb.mpr ⟨rfl, rfl, rfl⟩]
          exact k H40 ((e20.trans e30).trans e40)⟩⟩
      have xc := xb.trans ec
      have eC := eE.trans ec
      refine q_cut (M := fun σ' H1 => ∃ uv, σ' = [some (.ref a), some (.ref pv), some (.ref pp), some (.ref pm), some (.str fm), some (.ref pg), some (.ref pt), some uv, ov, none] ∧ Ex Hc H1 ∧ (uv = .non ∨ ∃ p2 ys, uv = .ref p2 ∧ EncAt K H1 p2 ys.length (maskOf ys) (d (pres ys)) ∧ d (pres ys) ≠ .none ∧ VVs ys ∧ ys ≠ xs)) ?_ fun σ' Hd pw => ?_
      · exact ⟨.str fm, rfl, ⟨.ref pv, rfl, pv, xs, rfl, sq_of (g3 xc), hz40, hx.1, fun py ys Hd hpy ed hd hys hne => ⟨fm, d, py, ys, rfl, hf, sq_of hd, hys, fun hn0 He ee => ⟨_, rfl, ed.trans ee, .inl rfl⟩, fun hn1 p2 He hp2 ee hE2 => ⟨_, rfl, ed.trans ee, .inr ⟨p2, ys, rfl, hE2.at, hn1, hys, hne⟩⟩⟩⟩⟩
      obtain ⟨uv, rfl, ed, hu⟩ := pw
      have xd := xc.trans ed
      have eD := eC.trans ed
      have hEd : EncP K pm Hd pt xs.length (maskOf xs) (d (pres xs)) := (hEf.pp (x8 _ _ h6)).ex eD
      refine q_when (b := false) ?_ (fun h => nomatch h) fun _ Hf ef => ?_
      · rcases hu with rfl | ⟨p2, ys, rfl, hE2, hn1, hys, hne⟩
        · exact et_is (a := (!decide (V.non = .non)) && true) (et_and (by walk_at "et") fun h => nomatch h) rfl
        · refine et_is (a := (!decide (V.ref p2 = .non)) && false) (et_and (by walk_at "et") fun _ => et_test (ev_encV (ev_var rfl) (ev_var rfl) (hEd.at.b hf hpx hn) (hE2.b hf (pres_pv hys) hn1) fun h => ?_)) (by simp)
          exact hne (mask_tell h.2.1 (inj_form hf hpx (pres_pv hys) hn h.2.2)).symm
      have xf := xd.trans ef
      refine q_forL (xs := ms.map fun t : Addr × Str × (List V → PyData) => V.ref t.1) (ev_var rfl) (sq_of (xf _ _ h6)) (fun j σ' H' => ∃ ov', σ' = [some (.ref a), some (.ref pv), some (.ref pp), some (.ref pm), some (.str fm), some (.ref pg), some (.ref pt), some uv, ov', none] ∧ Ex Hf H') (fun H1 e1 => ⟨ov, rfl, e1⟩) (fun j σ' H1 _ pw => ?_) (fun j y σ' H1 hj pw => ?_) fun σ' H1 pw => ?_
      · obtain ⟨ov', rfl, e⟩ := pw
        exact sq_of ((xf.trans e) _ _ h6)
      · obtain ⟨ov', rfl, e⟩ := pw
        rw [List.getElem?_map] at hj
        obtain ⟨t, ht, rfl⟩ := Option.map_eq_some_iff.mp hj
        have htm := List.mem_of_getElem? ht
        have htok := (hok t htm).up (xf.trans e)
        exact s_when (b := false) (et_test (ev_encV (ev_var rfl) (ev_var rfl) ((hEd.at.ex (ef.trans e)).b hf hpx hn) (htok.at_.at.b htok.fm hpx htok.ne) fun h => heads_ne hf htok.fm hn htok.ne (fun z => form_new hfm (z ▸ htok.tk)) h.2.2)) (fun hb => nomatch hb) fun _ H30 e30 => ⟨_, rfl, e.trans e30⟩
      · obtain ⟨ov', rfl, e⟩ := pw
        have xg := xf.trans e
        refine s_app (v := .ref pt) (xg _ _ h6) (ev_var rfl) (ev_var rfl) (by rw [List.length_map]; omega) fun Hg eg => ?_
        have xh := xg.trans eg
        have hpmG := xh _ _ h6
        refine ⟨_, _, _, _, _, ms ++ [(pt, fm, d)], rfl, Ex.mut (e6.trans xh) hpm, ?_, fun t ht => ?_, ?_, ?_⟩
        · rw [upd_same, List.map_append]
          rfl
        · rcases List.mem_append.mp ht with h | h
          · have k := (hok t h).up xh
            exact ⟨k.fm, k.at_.upd hpmG (bt_noL (bt_form k.fm hpx k.ne)), k.ne, k.next.tk⟩
          · rw [List.mem_singleton.mp h]
            refine ⟨hf, ((hEd.ex (ef.trans e)).ex eg).upd hpmG (bt_noL (bt_form hf hpx hn)), hn, ?_⟩
            show fm ∈ formsS.take (i + 1)
            rw [List.take_add_one, hfm]
            exact List.mem_append_right _ List.mem_cons_self
        · rw [List.length_append]
          have := need_up (i := i)
          show _ ≤ ms.length + 1
          omega
        · rw [List.length_append]
          show ms.length + 1 ≤ i + 1
          omega
  · obtain ⟨fv, gv, tv, uv, ov, ms, rfl, e6, h6, hok, hneed, hmost⟩ := pv'
    have h3 : 3 ≤ ms.length := hneed
    obtain ⟨t, r, rfl⟩ := List.exists_cons_of_ne_nil (l := ms) (fun z => by rw [z] at h3; cases h3)
    have k := hok t List.mem_cons_self
    refine s_ret (v := .bl (decide ((((t :: r).map fun t : Addr × Str × (List V → PyData) => V.ref t.1).length : Int) ≥ 3) && !false)) (ev_andV (ev_op (ev_len (ev_var rfl) (sq_of h6)) ev_c rv_I0) fun _ => ev_notV fun H1 e Q q => ?_) fun H9 e9 => ?_
    · obtain ⟨dx, mv, bv, hp, hr1⟩ := k.at_.at
      refine (ev_op (z := .ref t.1) (ev_var rfl) ev_c (rv_ixL (i := 0) (sq_of h6) (atI_nat (j := 0) rfl))) H1 e _ fun H2 e2 => ?_
      exact ⟨t.1, dx, _, rfl, (e.trans e2) _ _ hp, .inr ⟨5, rfl⟩, t.1, .int 5, _, _, _, rfl, ⟨k.at_.at.ex (e.trans e2), bt_form k.fm hpx k.ne⟩, .inl ⟨5, rfl, fun H' e' => ⟨⟨false, rfl⟩, q H' (e2.trans e')⟩⟩⟩
    · rw [List.length_map, decide_eq_true (by omega)]
      rfl
end

theorem all_mk {P : Program} {w : World} {K : PySem.W.Frag} {h : Heap} {mg : Str → Option Value} {fa : Addr} (X : K.In h) (G : h.Ns mainGlobals mg) (hfa : mg "law" = some (.ref fa))
    {C_Encoded : Addr} (qC_Encoded : PySem.W.nsIn K mainGlobals "Encoded" = some (some (.ref C_Encoded))) (pgC_Encoded : PySem.W.plainGet K C_Encoded Str.empty = true) (hdC_Encoded : PySem.W.hasDictIn K C_Encoded = true) (poC_Encoded : PySem.W.plainOver K C_Encoded = true) (saC_Encoded : PySem.W.findIn K (.ref C_Encoded) "__setattr__" = some (some (.builtin "object.__setattr__"))) (mkC_Encoded : PySem.W.makesIn K C_Encoded = true) (kcC_Encoded : PySem.W.keepIn K (.ref C_Encoded) = true)
    (haC_Encoded : PySem.W.findIn K (.ref C_Encoded) "__class__" = some (some (.builtin "object.__class__"))) (hnC_Encoded : PySem.W.specialIn K (.builtin "object.__class__") "__get__" = some (some (.builtin "getset_descriptor.__get__"))) (htC_Encoded : PySem.W.takesIn K (.builtin "object.__class__") = some true) (hmC_Encoded : PySem.W.mroIn K C_Encoded (.type "object") = some true) (meC_Encoded : PySem.W.kitOne K (.ref C_Encoded) (.ref C_Encoded) = some true) (kiC_Encoded : PySem.W.kitOne K (.type "int") (.ref C_Encoded) = some false) (niC_Encoded : PySem.W.notFirst K C_Encoded (.type "int") = true)
    (naC_Encoded_0 : PySem.W.findIn K (.ref C_Encoded) "length" = some none)
    (naC_Encoded_1 : PySem.W.findIn K (.ref C_Encoded) "mask" = some none)
    (naC_Encoded_2 : PySem.W.findIn K (.ref C_Encoded) "body" = some none)
    {f0 : Addr} {od0 an0 : Option Addr} {sl0 : Array (Option Value)} {oc0 kV0 dc0 pm0 cd0 ct0 : Value} (a0 : PySem.W.nsIn K mainGlobals "width_for" = some (some (.ref f0))) (l0 : K.lookup f0 = some ⟨oc0, od0, .func (PySem.W.fnOf "width_for" "width_for" (C8.fnArgs s_width_for) (C8.fnBody s_width_for) (C8.fnScope s_width_for) .none kV0 dc0 pm0 an0 cd0 ct0), sl0⟩) (b0 : PySem.W.codeIn K cd0 "width_for" = true) (k0 : PySem.W.keepIn K (.ref f0) = true)
    {f1 : Addr} {od1 an1 : Option Addr} {sl1 : Array (Option Value)} {oc1 kV1 dc1 pm1 cd1 ct1 : Value} (a1 : PySem.W.nsIn K mainGlobals "pack" = some (some (.ref f1))) (l1 : K.lookup f1 = some ⟨oc1, od1, .func (PySem.W.fnOf "pack" "pack" (C8.fnArgs s_pack) (C8.fnBody s_pack) (C8.fnScope s_pack) .none kV1 dc1 pm1 an1 cd1 ct1), sl1⟩) (b1 : PySem.W.codeIn K cd1 "pack" = true) (k1 : PySem.W.keepIn K (.ref f1) = true)
    {f2 : Addr} {od2 an2 : Option Addr} {sl2 : Array (Option Value)} {oc2 kV2 dc2 pm2 cd2 ct2 : Value} (a2 : PySem.W.nsIn K mainGlobals "unpack" = some (some (.ref f2))) (l2 : K.lookup f2 = some ⟨oc2, od2, .func (PySem.W.fnOf "unpack" "unpack" (C8.fnArgs s_unpack) (C8.fnBody s_unpack) (C8.fnScope s_unpack) .none kV2 dc2 pm2 an2 cd2 ct2), sl2⟩) (b2 : PySem.W.codeIn K cd2 "unpack" = true) (k2 : PySem.W.keepIn K (.ref f2) = true)
    {f3 : Addr} {od3 an3 : Option Addr} {sl3 : Array (Option Value)} {oc3 kV3 dc3 pm3 cd3 ct3 : Value} (a3 : PySem.W.nsIn K mainGlobals "kind_rank" = some (some (.ref f3))) (l3 : K.lookup f3 = some ⟨oc3, od3, .func (PySem.W.fnOf "kind_rank" "kind_rank" (C8.fnArgs s_kind_rank) (C8.fnBody s_kind_rank) (C8.fnScope s_kind_rank) .none kV3 dc3 pm3 an3 cd3 ct3), sl3⟩) (b3 : PySem.W.codeIn K cd3 "kind_rank" = true) (k3 : PySem.W.keepIn K (.ref f3) = true)
    {f4 : Addr} {od4 an4 : Option Addr} {sl4 : Array (Option Value)} {oc4 kV4 dc4 pm4 cd4 ct4 : Value} (a4 : PySem.W.nsIn K mainGlobals "is_integer" = some (some (.ref f4))) (l4 : K.lookup f4 = some ⟨oc4, od4, .func (PySem.W.fnOf "is_integer" "is_integer" (C8.fnArgs s_is_integer) (C8.fnBody s_is_integer) (C8.fnScope s_is_integer) .none kV4 dc4 pm4 an4 cd4 ct4), sl4⟩) (b4 : PySem.W.codeIn K cd4 "is_integer" = true) (k4 : PySem.W.keepIn K (.ref f4) = true)
    {f5 : Addr} {od5 an5 : Option Addr} {sl5 : Array (Option Value)} {oc5 kV5 dc5 pm5 cd5 ct5 : Value} (a5 : PySem.W.nsIn K mainGlobals "rank" = some (some (.ref f5))) (l5 : K.lookup f5 = some ⟨oc5, od5, .func (PySem.W.fnOf "rank" "rank" (C8.fnArgs s_rank) (C8.fnBody s_rank) (C8.fnScope s_rank) .none kV5 dc5 pm5 an5 cd5 ct5), sl5⟩) (b5 : PySem.W.codeIn K cd5 "rank" = true) (k5 : PySem.W.keepIn K (.ref f5) = true)
    {f6 : Addr} {od6 an6 : Option Addr} {sl6 : Array (Option Value)} {oc6 kV6 dc6 pm6 cd6 ct6 : Value} (a6 : PySem.W.nsIn K mainGlobals "same" = some (some (.ref f6))) (l6 : K.lookup f6 = some ⟨oc6, od6, .func (PySem.W.fnOf "same" "same" (C8.fnArgs s_same) (C8.fnBody s_same) (C8.fnScope s_same) .none kV6 dc6 pm6 an6 cd6 ct6), sl6⟩) (b6 : PySem.W.codeIn K cd6 "same" = true) (k6 : PySem.W.keepIn K (.ref f6) = true)
    {f7 : Addr} {od7 an7 : Option Addr} {sl7 : Array (Option Value)} {oc7 kV7 dc7 pm7 cd7 ct7 : Value} (a7 : PySem.W.nsIn K mainGlobals "_plain" = some (some (.ref f7))) (l7 : K.lookup f7 = some ⟨oc7, od7, .func (PySem.W.fnOf "_plain" "_plain" (C8.fnArgs s__plain) (C8.fnBody s__plain) (C8.fnScope s__plain) .none kV7 dc7 pm7 an7 cd7 ct7), sl7⟩) (b7 : PySem.W.codeIn K cd7 "_plain" = true) (k7 : PySem.W.keepIn K (.ref f7) = true)
    {f8 : Addr} {od8 an8 : Option Addr} {sl8 : Array (Option Value)} {oc8 kV8 dc8 pm8 cd8 ct8 : Value} (a8 : PySem.W.nsIn K mainGlobals "_constant" = some (some (.ref f8))) (l8 : K.lookup f8 = some ⟨oc8, od8, .func (PySem.W.fnOf "_constant" "_constant" (C8.fnArgs s__constant) (C8.fnBody s__constant) (C8.fnScope s__constant) .none kV8 dc8 pm8 an8 cd8 ct8), sl8⟩) (b8 : PySem.W.codeIn K cd8 "_constant" = true) (k8 : PySem.W.keepIn K (.ref f8) = true)
    {f9 : Addr} {od9 an9 : Option Addr} {sl9 : Array (Option Value)} {oc9 kV9 dc9 pm9 cd9 ct9 : Value} (a9 : PySem.W.nsIn K mainGlobals "_runs" = some (some (.ref f9))) (l9 : K.lookup f9 = some ⟨oc9, od9, .func (PySem.W.fnOf "_runs" "_runs" (C8.fnArgs s__runs) (C8.fnBody s__runs) (C8.fnScope s__runs) .none kV9 dc9 pm9 an9 cd9 ct9), sl9⟩) (b9 : PySem.W.codeIn K cd9 "_runs" = true) (k9 : PySem.W.keepIn K (.ref f9) = true)
    {f10 : Addr} {od10 an10 : Option Addr} {sl10 : Array (Option Value)} {oc10 kV10 dc10 pm10 cd10 ct10 : Value} (a10 : PySem.W.nsIn K mainGlobals "_dictionary" = some (some (.ref f10))) (l10 : K.lookup f10 = some ⟨oc10, od10, .func (PySem.W.fnOf "_dictionary" "_dictionary" (C8.fnArgs s__dictionary) (C8.fnBody s__dictionary) (C8.fnScope s__dictionary) .none kV10 dc10 pm10 an10 cd10 ct10), sl10⟩) (b10 : PySem.W.codeIn K cd10 "_dictionary" = true) (k10 : PySem.W.keepIn K (.ref f10) = true)
    {f11 : Addr} {od11 an11 : Option Addr} {sl11 : Array (Option Value)} {oc11 kV11 dc11 pm11 cd11 ct11 : Value} (a11 : PySem.W.nsIn K mainGlobals "_packed_above" = some (some (.ref f11))) (l11 : K.lookup f11 = some ⟨oc11, od11, .func (PySem.W.fnOf "_packed_above" "_packed_above" (C8.fnArgs s__packed_above) (C8.fnBody s__packed_above) (C8.fnScope s__packed_above) .none kV11 dc11 pm11 an11 cd11 ct11), sl11⟩) (b11 : PySem.W.codeIn K cd11 "_packed_above" = true) (k11 : PySem.W.keepIn K (.ref f11) = true)
    {f12 : Addr} {od12 an12 : Option Addr} {sl12 : Array (Option Value)} {oc12 kV12 dc12 pm12 cd12 ct12 : Value} (a12 : PySem.W.nsIn K mainGlobals "_are_integers" = some (some (.ref f12))) (l12 : K.lookup f12 = some ⟨oc12, od12, .func (PySem.W.fnOf "_are_integers" "_are_integers" (C8.fnArgs s__are_integers) (C8.fnBody s__are_integers) (C8.fnScope s__are_integers) .none kV12 dc12 pm12 an12 cd12 ct12), sl12⟩) (b12 : PySem.W.codeIn K cd12 "_are_integers" = true) (k12 : PySem.W.keepIn K (.ref f12) = true)
    {f13 : Addr} {od13 an13 : Option Addr} {sl13 : Array (Option Value)} {oc13 kV13 dc13 pm13 cd13 ct13 : Value} (a13 : PySem.W.nsIn K mainGlobals "_packed" = some (some (.ref f13))) (l13 : K.lookup f13 = some ⟨oc13, od13, .func (PySem.W.fnOf "_packed" "_packed" (C8.fnArgs s__packed) (C8.fnBody s__packed) (C8.fnScope s__packed) .none kV13 dc13 pm13 an13 cd13 ct13), sl13⟩) (b13 : PySem.W.codeIn K cd13 "_packed" = true) (k13 : PySem.W.keepIn K (.ref f13) = true)
    {f14 : Addr} {od14 an14 : Option Addr} {sl14 : Array (Option Value)} {oc14 kV14 dc14 pm14 cd14 ct14 : Value} (a14 : PySem.W.nsIn K mainGlobals "_deltas" = some (some (.ref f14))) (l14 : K.lookup f14 = some ⟨oc14, od14, .func (PySem.W.fnOf "_deltas" "_deltas" (C8.fnArgs s__deltas) (C8.fnBody s__deltas) (C8.fnScope s__deltas) .none kV14 dc14 pm14 an14 cd14 ct14), sl14⟩) (b14 : PySem.W.codeIn K cd14 "_deltas" = true) (k14 : PySem.W.keepIn K (.ref f14) = true)
    {f15 : Addr} {od15 an15 : Option Addr} {sl15 : Array (Option Value)} {oc15 kV15 dc15 pm15 cd15 ct15 : Value} (a15 : PySem.W.nsIn K mainGlobals "body_of" = some (some (.ref f15))) (l15 : K.lookup f15 = some ⟨oc15, od15, .func (PySem.W.fnOf "body_of" "body_of" (C8.fnArgs s_body_of) (C8.fnBody s_body_of) (C8.fnScope s_body_of) .none kV15 dc15 pm15 an15 cd15 ct15), sl15⟩) (b15 : PySem.W.codeIn K cd15 "body_of" = true) (k15 : PySem.W.keepIn K (.ref f15) = true)
    {f16 : Addr} {od16 an16 : Option Addr} {sl16 : Array (Option Value)} {oc16 kV16 dc16 pm16 cd16 ct16 : Value} (a16 : PySem.W.nsIn K mainGlobals "_runs_values" = some (some (.ref f16))) (l16 : K.lookup f16 = some ⟨oc16, od16, .func (PySem.W.fnOf "_runs_values" "_runs_values" (C8.fnArgs s__runs_values) (C8.fnBody s__runs_values) (C8.fnScope s__runs_values) .none kV16 dc16 pm16 an16 cd16 ct16), sl16⟩) (b16 : PySem.W.codeIn K cd16 "_runs_values" = true) (k16 : PySem.W.keepIn K (.ref f16) = true)
    {f17 : Addr} {od17 an17 : Option Addr} {sl17 : Array (Option Value)} {oc17 kV17 dc17 pm17 cd17 ct17 : Value} (a17 : PySem.W.nsIn K mainGlobals "_deltas_values" = some (some (.ref f17))) (l17 : K.lookup f17 = some ⟨oc17, od17, .func (PySem.W.fnOf "_deltas_values" "_deltas_values" (C8.fnArgs s__deltas_values) (C8.fnBody s__deltas_values) (C8.fnScope s__deltas_values) .none kV17 dc17 pm17 an17 cd17 ct17), sl17⟩) (b17 : PySem.W.codeIn K cd17 "_deltas_values" = true) (k17 : PySem.W.keepIn K (.ref f17) = true)
    {f18 : Addr} {od18 an18 : Option Addr} {sl18 : Array (Option Value)} {oc18 kV18 dc18 pm18 cd18 ct18 : Value} (a18 : PySem.W.nsIn K mainGlobals "values_of" = some (some (.ref f18))) (l18 : K.lookup f18 = some ⟨oc18, od18, .func (PySem.W.fnOf "values_of" "values_of" (C8.fnArgs s_values_of) (C8.fnBody s_values_of) (C8.fnScope s_values_of) .none kV18 dc18 pm18 an18 cd18 ct18), sl18⟩) (b18 : PySem.W.codeIn K cd18 "values_of" = true) (k18 : PySem.W.keepIn K (.ref f18) = true)
    {f19 : Addr} {od19 an19 : Option Addr} {sl19 : Array (Option Value)} {oc19 kV19 dc19 pm19 cd19 ct19 : Value} (a19 : PySem.W.nsIn K mainGlobals "_are_alike" = some (some (.ref f19))) (l19 : K.lookup f19 = some ⟨oc19, od19, .func (PySem.W.fnOf "_are_alike" "_are_alike" (C8.fnArgs s__are_alike) (C8.fnBody s__are_alike) (C8.fnScope s__are_alike) .none kV19 dc19 pm19 an19 cd19 ct19), sl19⟩) (b19 : PySem.W.codeIn K cd19 "_are_alike" = true) (k19 : PySem.W.keepIn K (.ref f19) = true)
    {f20 : Addr} {od20 an20 : Option Addr} {sl20 : Array (Option Value)} {oc20 kV20 dc20 pm20 cd20 ct20 : Value}
    (a20 : PySem.W.findIn K (.ref C_Encoded) "__init__" = some (some (.ref f20))) (iF20 : PySem.W.isFn K (.ref f20) = true)
    (l20 : K.lookup f20 = some ⟨oc20, od20, .func (PySem.W.fnOf "__init__" "Encoded.__init__" (C8.fnArgs s_Encoded____init__) (C8.fnBody s_Encoded____init__) (C8.fnScope s_Encoded____init__) .none kV20 dc20 pm20 an20 cd20 ct20), sl20⟩) (b20 : PySem.W.codeIn K cd20 "Encoded.__init__" = true) (k20 : PySem.W.keepIn K (.ref f20) = true)
    {f21 : Addr} {od21 an21 : Option Addr} {sl21 : Array (Option Value)} {oc21 kV21 dc21 pm21 cd21 ct21 : Value}
    {p21 : Addr} {r21 : List Value} (a21 : PySem.W.findIn K (.ref C_Encoded) "form" = some (some (.ref p21))) (gP21 : PySem.W.specialIn K (.ref p21) "__get__" = some (some (.builtin "property.__get__"))) (tP21 : PySem.W.takesIn K (.ref p21) = some true) (rP21 : PySem.W.recIn K p21 "property" = some (.ref f21 :: r21))
    (l21 : K.lookup f21 = some ⟨oc21, od21, .func (PySem.W.fnOf "form" "Encoded.form" (C8.fnArgs s_Encoded__form) (C8.fnBody s_Encoded__form) (C8.fnScope s_Encoded__form) .none kV21 dc21 pm21 an21 cd21 ct21), sl21⟩) (b21 : PySem.W.codeIn K cd21 "Encoded.form" = true) (k21 : PySem.W.keepIn K (.ref f21) = true)
    {f22 : Addr} {od22 an22 : Option Addr} {sl22 : Array (Option Value)} {oc22 kV22 dc22 pm22 cd22 ct22 : Value}
    (a22 : PySem.W.findIn K (.ref C_Encoded) "decoded" = some (some (.ref f22))) (iF22 : PySem.W.isFn K (.ref f22) = true)
    (l22 : K.lookup f22 = some ⟨oc22, od22, .func (PySem.W.fnOf "decoded" "Encoded.decoded" (C8.fnArgs s_Encoded__decoded) (C8.fnBody s_Encoded__decoded) (C8.fnScope s_Encoded__decoded) .none kV22 dc22 pm22 an22 cd22 ct22), sl22⟩) (b22 : PySem.W.codeIn K cd22 "Encoded.decoded" = true) (k22 : PySem.W.keepIn K (.ref f22) = true)
    {f23 : Addr} {od23 an23 : Option Addr} {sl23 : Array (Option Value)} {oc23 kV23 dc23 pm23 cd23 ct23 : Value}
    (a23 : PySem.W.findIn K (.ref C_Encoded) "__eq__" = some (some (.ref f23))) (iF23 : PySem.W.isFn K (.ref f23) = true)
    (l23 : K.lookup f23 = some ⟨oc23, od23, .func (PySem.W.fnOf "__eq__" "Encoded.__eq__" (C8.fnArgs s_Encoded____eq__) (C8.fnBody s_Encoded____eq__) (C8.fnScope s_Encoded____eq__) .none kV23 dc23 pm23 an23 cd23 ct23), sl23⟩) (b23 : PySem.W.codeIn K cd23 "Encoded.__eq__" = true) (k23 : PySem.W.keepIn K (.ref f23) = true)
    {f24 : Addr} {od24 an24 : Option Addr} {sl24 : Array (Option Value)} {oc24 kV24 dc24 pm24 cd24 ct24 : Value} (a24 : PySem.W.nsIn K mainGlobals "encode_as" = some (some (.ref f24))) (l24 : K.lookup f24 = some ⟨oc24, od24, .func (PySem.W.fnOf "encode_as" "encode_as" (C8.fnArgs s_encode_as) (C8.fnBody s_encode_as) (C8.fnScope s_encode_as) .none kV24 dc24 pm24 an24 cd24 ct24), sl24⟩) (b24 : PySem.W.codeIn K cd24 "encode_as" = true) (k24 : PySem.W.keepIn K (.ref f24) = true)
    {f25 : Addr} {od25 an25 : Option Addr} {sl25 : Array (Option Value)} {oc25 kV25 dc25 pm25 cd25 ct25 : Value} (a25 : PySem.W.nsIn K mainGlobals "_law_cell" = some (some (.ref f25))) (l25 : K.lookup f25 = some ⟨oc25, od25, .func (PySem.W.fnOf "_law_cell" "_law_cell" (C8.fnArgs s__law_cell) (C8.fnBody s__law_cell) (C8.fnScope s__law_cell) .none kV25 dc25 pm25 an25 cd25 ct25), sl25⟩) (b25 : PySem.W.codeIn K cd25 "_law_cell" = true) (k25 : PySem.W.keepIn K (.ref f25) = true)
    {f26 : Addr} {od26 an26 : Option Addr} {sl26 : Array (Option Value)} {oc26 kV26 dc26 pm26 cd26 ct26 : Value} (a26 : PySem.W.nsIn K mainGlobals "_law_state" = some (some (.ref f26))) (l26 : K.lookup f26 = some ⟨oc26, od26, .func (PySem.W.fnOf "_law_state" "_law_state" (C8.fnArgs s__law_state) (C8.fnBody s__law_state) (C8.fnScope s__law_state) .none kV26 dc26 pm26 an26 cd26 ct26), sl26⟩) (b26 : PySem.W.codeIn K cd26 "_law_state" = true) (k26 : PySem.W.keepIn K (.ref f26) = true)
    {f27 : Addr} {od27 an27 : Option Addr} {sl27 : Array (Option Value)} {oc27 kV27 dc27 pm27 cd27 ct27 : Value} (a27 : PySem.W.nsIn K mainGlobals "_law_digit" = some (some (.ref f27))) (l27 : K.lookup f27 = some ⟨oc27, od27, .func (PySem.W.fnOf "_law_digit" "_law_digit" (C8.fnArgs s__law_digit) (C8.fnBody s__law_digit) (C8.fnScope s__law_digit) .none kV27 dc27 pm27 an27 cd27 ct27), sl27⟩) (b27 : PySem.W.codeIn K cd27 "_law_digit" = true) (k27 : PySem.W.keepIn K (.ref f27) = true)
    {f28 : Addr} {od28 an28 : Option Addr} {sl28 : Array (Option Value)} {oc28 kV28 dc28 pm28 cd28 ct28 : Value} (a28 : PySem.W.nsIn K mainGlobals "_law_is_integer" = some (some (.ref f28))) (l28 : K.lookup f28 = some ⟨oc28, od28, .func (PySem.W.fnOf "_law_is_integer" "_law_is_integer" (C8.fnArgs s__law_is_integer) (C8.fnBody s__law_is_integer) (C8.fnScope s__law_is_integer) .none kV28 dc28 pm28 an28 cd28 ct28), sl28⟩) (b28 : PySem.W.codeIn K cd28 "_law_is_integer" = true) (k28 : PySem.W.keepIn K (.ref f28) = true)
    {f29 : Addr} {od29 an29 : Option Addr} {sl29 : Array (Option Value)} {oc29 kV29 dc29 pm29 cd29 ct29 : Value} (a29 : PySem.W.nsIn K mainGlobals "_law_rank" = some (some (.ref f29))) (l29 : K.lookup f29 = some ⟨oc29, od29, .func (PySem.W.fnOf "_law_rank" "_law_rank" (C8.fnArgs s__law_rank) (C8.fnBody s__law_rank) (C8.fnScope s__law_rank) .none kV29 dc29 pm29 an29 cd29 ct29), sl29⟩) (b29 : PySem.W.codeIn K cd29 "_law_rank" = true) (k29 : PySem.W.keepIn K (.ref f29) = true)
    {f30 : Addr} {od30 an30 : Option Addr} {sl30 : Array (Option Value)} {oc30 kV30 dc30 pm30 cd30 ct30 : Value} (a30 : PySem.W.nsIn K mainGlobals "_law_text" = some (some (.ref f30))) (l30 : K.lookup f30 = some ⟨oc30, od30, .func (PySem.W.fnOf "_law_text" "_law_text" (C8.fnArgs s__law_text) (C8.fnBody s__law_text) (C8.fnScope s__law_text) .none kV30 dc30 pm30 an30 cd30 ct30), sl30⟩) (b30 : PySem.W.codeIn K cd30 "_law_text" = true) (k30 : PySem.W.keepIn K (.ref f30) = true)
    {f31 : Addr} {od31 an31 : Option Addr} {sl31 : Array (Option Value)} {oc31 kV31 dc31 pm31 cd31 ct31 : Value} (a31 : PySem.W.nsIn K mainGlobals "_law_value" = some (some (.ref f31))) (l31 : K.lookup f31 = some ⟨oc31, od31, .func (PySem.W.fnOf "_law_value" "_law_value" (C8.fnArgs s__law_value) (C8.fnBody s__law_value) (C8.fnScope s__law_value) .none kV31 dc31 pm31 an31 cd31 ct31), sl31⟩) (b31 : PySem.W.codeIn K cd31 "_law_value" = true) (k31 : PySem.W.keepIn K (.ref f31) = true)
    {f32 : Addr} {od32 an32 : Option Addr} {sl32 : Array (Option Value)} {oc32 kV32 dc32 pm32 cd32 ct32 : Value} (a32 : PySem.W.nsIn K mainGlobals "_law_values" = some (some (.ref f32))) (l32 : K.lookup f32 = some ⟨oc32, od32, .func (PySem.W.fnOf "_law_values" "_law_values" (C8.fnArgs s__law_values) (C8.fnBody s__law_values) (C8.fnScope s__law_values) .none kV32 dc32 pm32 an32 cd32 ct32), sl32⟩) (b32 : PySem.W.codeIn K cd32 "_law_values" = true) (k32 : PySem.W.keepIn K (.ref f32) = true)
    {f33 : Addr} {od33 an33 : Option Addr} {sl33 : Array (Option Value)} {oc33 kV33 dc33 pm33 cd33 ct33 : Value} (a33 : PySem.W.nsIn K mainGlobals "_law_possible" = some (some (.ref f33))) (l33 : K.lookup f33 = some ⟨oc33, od33, .func (PySem.W.fnOf "_law_possible" "_law_possible" (C8.fnArgs s__law_possible) (C8.fnBody s__law_possible) (C8.fnScope s__law_possible) .none kV33 dc33 pm33 an33 cd33 ct33), sl33⟩) (b33 : PySem.W.codeIn K cd33 "_law_possible" = true) (k33 : PySem.W.keepIn K (.ref f33) = true)
    {f34 : Addr} {od34 an34 : Option Addr} {sl34 : Array (Option Value)} {oc34 kV34 dc34 pm34 cd34 ct34 : Value} (a34 : PySem.W.nsIn K mainGlobals "_law_turned" = some (some (.ref f34))) (l34 : K.lookup f34 = some ⟨oc34, od34, .func (PySem.W.fnOf "_law_turned" "_law_turned" (C8.fnArgs s__law_turned) (C8.fnBody s__law_turned) (C8.fnScope s__law_turned) .none kV34 dc34 pm34 an34 cd34 ct34), sl34⟩) (b34 : PySem.W.codeIn K cd34 "_law_turned" = true) (k34 : PySem.W.keepIn K (.ref f34) = true)
    {f35 : Addr} {od35 an35 : Option Addr} {sl35 : Array (Option Value)} {oc35 kV35 dc35 pm35 cd35 ct35 : Value} (a35 : PySem.W.nsIn K mainGlobals "_law_right" = some (some (.ref f35))) (l35 : K.lookup f35 = some ⟨oc35, od35, .func (PySem.W.fnOf "_law_right" "_law_right" (C8.fnArgs s__law_right) (C8.fnBody s__law_right) (C8.fnScope s__law_right) .none kV35 dc35 pm35 an35 cd35 ct35), sl35⟩) (b35 : PySem.W.codeIn K cd35 "_law_right" = true) (k35 : PySem.W.keepIn K (.ref f35) = true)
    {f36 : Addr} {od36 an36 : Option Addr} {sl36 : Array (Option Value)} {oc36 kV36 dc36 pm36 cd36 ct36 : Value} (a36 : PySem.W.nsIn K mainGlobals "law" = some (some (.ref f36))) (l36 : K.lookup f36 = some ⟨oc36, od36, .func (PySem.W.fnOf "law" "law" (C8.fnArgs s_law) (C8.fnBody s_law) (C8.fnScope s_law) .none kV36 dc36 pm36 an36 cd36 ct36), sl36⟩) (b36 : PySem.W.codeIn K cd36 "law" = true) (k36 : PySem.W.keepIn K (.ref f36) = true)
    (z_all : PySem.W.nsIn K mainGlobals "all" = some none)
    (z_bool : PySem.W.nsIn K mainGlobals "bool" = some none)
    (z_int : PySem.W.nsIn K mainGlobals "int" = some none)
    (z_isinstance : PySem.W.nsIn K mainGlobals "isinstance" = some none)
    (z_len : PySem.W.nsIn K mainGlobals "len" = some none)
    (z_list : PySem.W.nsIn K mainGlobals "list" = some none)
    (z_max : PySem.W.nsIn K mainGlobals "max" = some none)
    (z_min : PySem.W.nsIn K mainGlobals "min" = some none)
    (z_range : PySem.W.nsIn K mainGlobals "range" = some none)
    (z_repr : PySem.W.nsIn K mainGlobals "repr" = some none)
    (z_reversed : PySem.W.nsIn K mainGlobals "reversed" = some none)
    (z_tuple : PySem.W.nsIn K mainGlobals "tuple" = some none)
    (z_zip : PySem.W.nsIn K mainGlobals "zip" = some none)
    {p_FORMS : Addr} (q_FORMS : PySem.W.nsIn K mainGlobals "FORMS" = some (some (.ref p_FORMS))) (r_FORMS : ∀ H : Hp, SqT K H p_FORMS (formsS.map V.str))
    {p__BODIES : Addr} {es__BODIES : Array DictEntry} {n__BODIES : Nat} (q__BODIES : PySem.W.nsIn K mainGlobals "_BODIES" = some (some (.ref p__BODIES))) (ka__BODIES : K.lookup p__BODIES = some ⟨.type "dict", none, .dict es__BODIES n__BODIES, #[]⟩) (kl__BODIES : PySem.W.KeysLit w.params es__BODIES.toList) (ko__BODIES : (p__BODIES == sysModules) = false)
    (e__BODIES_0 : PySem.W.nsIn K p__BODIES "plain" = some (some (.ref f7)))
    (e__BODIES_1 : PySem.W.nsIn K p__BODIES "constant" = some (some (.ref f8)))
    (e__BODIES_2 : PySem.W.nsIn K p__BODIES "runs" = some (some (.ref f9)))
    (e__BODIES_3 : PySem.W.nsIn K p__BODIES "dictionary" = some (some (.ref f10)))
    (e__BODIES_4 : PySem.W.nsIn K p__BODIES "packed" = some (some (.ref f13)))
    (e__BODIES_5 : PySem.W.nsIn K p__BODIES "deltas" = some (some (.ref f14)))
    : ∃ fd : FuncData, C8.Def K mg "law" s_law fa fd ∧ (∀ (s : Shared) (u : Value), BindsTo s fd ⟨[u], []⟩ [("script", u)]) ∧ ∀ (base : Heap) (s : Shared) (H : Hp) (a : Addr) (ns : List Int) (cdv : Value), K.In base → base.Ns mainGlobals mg → base.NoDigits → ns.length ≤ 63 → SqL K H a (ns.map V.int) → Room 9 (callerA.deeper (envOfC "law" (C8.fnScope s_law) s.heap.objs.size fa cdv)) → ∃ t, PSs (cxOf C8.CX0 P w K mg base n_law "law" (C8.fnScope s_law) fa cdv callerA [] s H C8.E0).nox (C8.fnBody s_law) t ∧ t { nx := fun _ _ => V.non = .bl true, rt := fun v _ => v = .bl true } (start n_law [.ref a]) H := by
  have D_width_for : Dn K mg "width_for" s_width_for ["number"] := dn_mk l0 b0 k0 (PySem.W.mg_of X G a0) (fun _ _ _ _ _ _ us hl => match us, hl with | [_], _ => rfl)
  have D_pack : Dn K mg "pack" s_pack ["numbers", "width"] := dn_mk l1 b1 k1 (PySem.W.mg_of X G a1) (fun _ _ _ _ _ _ us hl => match us, hl with | [_, _], _ => rfl)
  have D_unpack : Dn K mg "unpack" s_unpack ["bits", "width", "count"] := dn_mk l2 b2 k2 (PySem.W.mg_of X G a2) (fun _ _ _ _ _ _ us hl => match us, hl with | [_, _, _], _ => rfl)
  have D_kind_rank : Dn K mg "kind_rank" s_kind_rank ["value"] := dn_mk l3 b3 k3 (PySem.W.mg_of X G a3) (fun _ _ _ _ _ _ us hl => match us, hl with | [_], _ => rfl)
  have D_is_integer : Dn K mg "is_integer" s_is_integer ["value"] := dn_mk l4 b4 k4 (PySem.W.mg_of X G a4) (fun _ _ _ _ _ _ us hl => match us, hl with | [_], _ => rfl)
  have D_rank : Dn K mg "rank" s_rank ["value"] := dn_mk l5 b5 k5 (PySem.W.mg_of X G a5) (fun _ _ _ _ _ _ us hl => match us, hl with | [_], _ => rfl)
  have D_same : Dn K mg "same" s_same ["first", "second"] := dn_mk l6 b6 k6 (PySem.W.mg_of X G a6) (fun _ _ _ _ _ _ us hl => match us, hl with | [_, _], _ => rfl)
  have D__plain : Dn K mg "_plain" s__plain ["present"] := dn_mk l7 b7 k7 (PySem.W.mg_of X G a7) (fun _ _ _ _ _ _ us hl => match us, hl with | [_], _ => rfl)
  have D__constant : Dn K mg "_constant" s__constant ["present"] := dn_mk l8 b8 k8 (PySem.W.mg_of X G a8) (fun _ _ _ _ _ _ us hl => match us, hl with | [_], _ => rfl)
  have D__runs : Dn K mg "_runs" s__runs ["present"] := dn_mk l9 b9 k9 (PySem.W.mg_of X G a9) (fun _ _ _ _ _ _ us hl => match us, hl with | [_], _ => rfl)
  have D__dictionary : Dn K mg "_dictionary" s__dictionary ["present"] := dn_mk l10 b10 k10 (PySem.W.mg_of X G a10) (fun _ _ _ _ _ _ us hl => match us, hl with | [_], _ => rfl)
  have D__packed_above : Dn K mg "_packed_above" s__packed_above ["least", "numbers"] := dn_mk l11 b11 k11 (PySem.W.mg_of X G a11) (fun _ _ _ _ _ _ us hl => match us, hl with | [_, _], _ => rfl)
  have D__are_integers : Dn K mg "_are_integers" s__are_integers ["present"] := dn_mk l12 b12 k12 (PySem.W.mg_of X G a12) (fun _ _ _ _ _ _ us hl => match us, hl with | [_], _ => rfl)
  have D__packed : Dn K mg "_packed" s__packed ["present"] := dn_mk l13 b13 k13 (PySem.W.mg_of X G a13) (fun _ _ _ _ _ _ us hl => match us, hl with | [_], _ => rfl)
  have D__deltas : Dn K mg "_deltas" s__deltas ["present"] := dn_mk l14 b14 k14 (PySem.W.mg_of X G a14) (fun _ _ _ _ _ _ us hl => match us, hl with | [_], _ => rfl)
  have D_body_of : Dn K mg "body_of" s_body_of ["form", "present"] := dn_mk l15 b15 k15 (PySem.W.mg_of X G a15) (fun _ _ _ _ _ _ us hl => match us, hl with | [_, _], _ => rfl)
  have D__runs_values : Dn K mg "_runs_values" s__runs_values ["pairs"] := dn_mk l16 b16 k16 (PySem.W.mg_of X G a16) (fun _ _ _ _ _ _ us hl => match us, hl with | [_], _ => rfl)
  have D__deltas_values : Dn K mg "_deltas_values" s__deltas_values ["first", "least", "steps"] := dn_mk l17 b17 k17 (PySem.W.mg_of X G a17) (fun _ _ _ _ _ _ us hl => match us, hl with | [_, _, _], _ => rfl)
  have D_values_of : Dn K mg "values_of" s_values_of ["body"] := dn_mk l18 b18 k18 (PySem.W.mg_of X G a18) (fun _ _ _ _ _ _ us hl => match us, hl with | [_], _ => rfl)
  have D__are_alike : Dn K mg "_are_alike" s__are_alike ["first", "second"] := dn_mk l19 b19 k19 (PySem.W.mg_of X G a19) (fun _ _ _ _ _ _ us hl => match us, hl with | [_, _], _ => rfl)
  have F_Encoded____init__ : C8.Fun K "__init__" "Encoded.__init__" s_Encoded____init__ f20 _ := ⟨_, _, _, _, _, _, _, _, _, _, rfl, l20, b20⟩
  have B_Encoded____init__ : Binds K _ ["self", "length", "mask", "body"] [] := C8.Fun.binds F_Encoded____init__ rfl (fun _ _ _ _ _ _ us hl => match us, hl with | [_, _, _, _], _ => rfl)
  have D_Encoded____init__ : MetD K "Encoded" "__init__" "Encoded.__init__" s_Encoded____init__ ["self", "length", "mask", "body"] := metD_mk qC_Encoded a20 iF20 k20 F_Encoded____init__ B_Encoded____init__
  have F_Encoded__form : C8.Fun K "form" "Encoded.form" s_Encoded__form f21 _ := ⟨_, _, _, _, _, _, _, _, _, _, rfl, l21, b21⟩
  have B_Encoded__form : Binds K _ ["self"] [] := C8.Fun.binds F_Encoded__form rfl (fun _ _ _ _ _ _ us hl => match us, hl with | [_], _ => rfl)
  have D_Encoded__form : PrpD K "Encoded" "form" "Encoded.form" s_Encoded__form ["self"] := prpD_mk qC_Encoded a21 gP21 tP21 rP21 F_Encoded__form B_Encoded__form
  have F_Encoded__decoded : C8.Fun K "decoded" "Encoded.decoded" s_Encoded__decoded f22 _ := ⟨_, _, _, _, _, _, _, _, _, _, rfl, l22, b22⟩
  have B_Encoded__decoded : Binds K _ ["self"] [] := C8.Fun.binds F_Encoded__decoded rfl (fun _ _ _ _ _ _ us hl => match us, hl with | [_], _ => rfl)
  have D_Encoded__decoded : MetD K "Encoded" "decoded" "Encoded.decoded" s_Encoded__decoded ["self"] := metD_mk qC_Encoded a22 iF22 k22 F_Encoded__decoded B_Encoded__decoded
  have F_Encoded____eq__ : C8.Fun K "__eq__" "Encoded.__eq__" s_Encoded____eq__ f23 _ := ⟨_, _, _, _, _, _, _, _, _, _, rfl, l23, b23⟩
  have B_Encoded____eq__ : Binds K _ ["self", "other"] [] := C8.Fun.binds F_Encoded____eq__ rfl (fun _ _ _ _ _ _ us hl => match us, hl with | [_, _], _ => rfl)
  have D_Encoded____eq__ : MetD K "Encoded" "__eq__" "Encoded.__eq__" s_Encoded____eq__ ["self", "other"] := metD_mk qC_Encoded a23 iF23 k23 F_Encoded____eq__ B_Encoded____eq__
  have D_encode_as : Dn K mg "encode_as" s_encode_as ["form", "values"] := dn_mk l24 b24 k24 (PySem.W.mg_of X G a24) (fun _ _ _ _ _ _ us hl => match us, hl with | [_, _], _ => rfl)
  have D__law_cell : Dn K mg "_law_cell" s__law_cell ["script", "k"] := dn_mk l25 b25 k25 (PySem.W.mg_of X G a25) (fun _ _ _ _ _ _ us hl => match us, hl with | [_, _], _ => rfl)
  have D__law_state : Dn K mg "_law_state" s__law_state ["cell", "k"] := dn_mk l26 b26 k26 (PySem.W.mg_of X G a26) (fun _ _ _ _ _ _ us hl => match us, hl with | [_, _], _ => rfl)
  have D__law_digit : Dn K mg "_law_digit" s__law_digit ["state", "many"] := dn_mk l27 b27 k27 (PySem.W.mg_of X G a27) (fun _ _ _ _ _ _ us hl => match us, hl with | [_, _], _ => rfl)
  have D__law_is_integer : Dn K mg "_law_is_integer" s__law_is_integer ["told"] := dn_mk l28 b28 k28 (PySem.W.mg_of X G a28) (fun _ _ _ _ _ _ us hl => match us, hl with | [_], _ => rfl)
  have D__law_rank : Dn K mg "_law_rank" s__law_rank ["value"] := dn_mk l29 b29 k29 (PySem.W.mg_of X G a29) (fun _ _ _ _ _ _ us hl => match us, hl with | [_], _ => rfl)
  have D__law_text : Dn K mg "_law_text" s__law_text ["state"] := dn_mk l30 b30 k30 (PySem.W.mg_of X G a30) (fun _ _ _ _ _ _ us hl => match us, hl with | [_], _ => rfl)
  have D__law_value : Dn K mg "_law_value" s__law_value ["state"] := dn_mk l31 b31 k31 (PySem.W.mg_of X G a31) (fun _ _ _ _ _ _ us hl => match us, hl with | [_], _ => rfl)
  have D__law_values : Dn K mg "_law_values" s__law_values ["script"] := dn_mk l32 b32 k32 (PySem.W.mg_of X G a32) (fun _ _ _ _ _ _ us hl => match us, hl with | [_], _ => rfl)
  have D__law_possible : Dn K mg "_law_possible" s__law_possible ["form", "present"] := dn_mk l33 b33 k33 (PySem.W.mg_of X G a33) (fun _ _ _ _ _ _ us hl => match us, hl with | [_, _], _ => rfl)
  have D__law_turned : Dn K mg "_law_turned" s__law_turned ["values"] := dn_mk l34 b34 k34 (PySem.W.mg_of X G a34) (fun _ _ _ _ _ _ us hl => match us, hl with | [_], _ => rfl)
  have D__law_right : Dn K mg "_law_right" s__law_right ["told", "form", "values"] := dn_mk l35 b35 k35 (PySem.W.mg_of X G a35) (fun _ _ _ _ _ _ us hl => match us, hl with | [_, _, _], _ => rfl)
  have C_Encoded : ClsD K mg "Encoded" ["length", "mask", "body"] := clsD_mk qC_Encoded (PySem.W.mg_of X G qC_Encoded) pgC_Encoded hdC_Encoded poC_Encoded saC_Encoded mkC_Encoded kcC_Encoded ⟨naC_Encoded_0, ⟨naC_Encoded_1, ⟨naC_Encoded_2, trivial⟩⟩⟩
  have I_Encoded : OwnI K "Encoded" := ownI_mk qC_Encoded C_Encoded.cl haC_Encoded hnC_Encoded htC_Encoded hmC_Encoded meC_Encoded kiC_Encoded niC_Encoded
  have y_all : mg "all" = none := PySem.W.mg_none_of X G z_all
  have y_bool : mg "bool" = none := PySem.W.mg_none_of X G z_bool
  have y_int : mg "int" = none := PySem.W.mg_none_of X G z_int
  have y_isinstance : mg "isinstance" = none := PySem.W.mg_none_of X G z_isinstance
  have y_len : mg "len" = none := PySem.W.mg_none_of X G z_len
  have y_list : mg "list" = none := PySem.W.mg_none_of X G z_list
  have y_max : mg "max" = none := PySem.W.mg_none_of X G z_max
  have y_min : mg "min" = none := PySem.W.mg_none_of X G z_min
  have y_range : mg "range" = none := PySem.W.mg_none_of X G z_range
  have y_repr : mg "repr" = none := PySem.W.mg_none_of X G z_repr
  have y_reversed : mg "reversed" = none := PySem.W.mg_none_of X G z_reversed
  have y_tuple : mg "tuple" = none := PySem.W.mg_none_of X G z_tuple
  have y_zip : mg "zip" = none := PySem.W.mg_none_of X G z_zip
  have v_FORMS : ∃ u, mg "FORMS" = some u ∧ RelV (.ref p_FORMS) u := ⟨_, PySem.W.mg_of X G q_FORMS, rfl⟩
  have w_FORMS := r_FORMS
  have v__BODIES : ∃ u, mg "_BODIES" = some u ∧ RelV (.ref p__BODIES) u := ⟨_, PySem.W.mg_of X G q__BODIES, rfl⟩
  have w__BODIES : KDict K w p__BODIES es__BODIES n__BODIES := ⟨ka__BODIES, kl__BODIES, ko__BODIES⟩
  have e := hfa.symm.trans (PySem.W.mg_of X G a36)
  cases e
  have D_law := def_mk (x := "law") (st := s_law) l36 b36 k36 hfa
  refine ⟨_, D_law, fun s v => .of_eq rfl, fun base s H a ns cdv _ _ nd h63 hS hr => ?_⟩
  have c_width_for := ok_width_for (P := P) (w := w) (base := base) D_width_for 
  have c_pack := ok_pack (P := P) (w := w) (base := base) D_pack y_reversed 
  have c_unpack := ok_unpack (P := P) (w := w) (base := base) D_unpack y_range 
  have c_kind_rank := ok_kind_rank (P := P) (w := w) (base := base) D_kind_rank y_bool y_int y_isinstance 
  have c_is_integer := ok_is_integer (P := P) (w := w) (base := base) D_is_integer y_bool y_int y_isinstance 
  have c_rank := ok_rank (P := P) (w := w) (base := base) D_rank c_kind_rank y_int 
  have c_same := ok_same (P := P) (w := w) (base := base) D_same c_rank 
  have c__plain := ok__plain (P := P) (w := w) (base := base) D__plain y_tuple 
  have c__constant := ok__constant (P := P) (w := w) (base := base) D__constant c_same y_all y_len 
  have c__runs := ok__runs (P := P) (w := w) (base := base) D__runs c_same y_tuple 
  have c__dictionary := ok__dictionary (P := P) (w := w) (base := base) D__dictionary c_pack c_rank c_width_for y_len y_tuple 
  have c__packed_above := ok__packed_above (P := P) (w := w) (base := base) D__packed_above c_pack c_width_for y_max 
  have c__are_integers := ok__are_integers (P := P) (w := w) (base := base) D__are_integers c_is_integer y_all 
  have c__packed := ok__packed (P := P) (w := w) (base := base) D__packed c__are_integers c__packed_above y_len y_min 
  have c__deltas := ok__deltas (P := P) (w := w) (base := base) D__deltas c__are_integers c__packed_above y_len y_min y_range 
  have tab : ∀ fm d, FormD fm d → ∃ f, PySem.W.nsIn K p__BODIES fm = some (some (.ref f)) ∧ L2.Held P w K mg base 4 f (spB d K) := by
    intro fm d h
    cases h with
    | plain => exact ⟨_, e__BODIES_0, held_of c__plain (PySem.W.mg_of X G a7) (by decide)⟩
    | constant => exact ⟨_, e__BODIES_1, held_of c__constant (PySem.W.mg_of X G a8) (by decide)⟩
    | runs => exact ⟨_, e__BODIES_2, held_of c__runs (PySem.W.mg_of X G a9) (by decide)⟩
    | dictionary => exact ⟨_, e__BODIES_3, held_of c__dictionary (PySem.W.mg_of X G a10) (by decide)⟩
    | packed => exact ⟨_, e__BODIES_4, held_of c__packed (PySem.W.mg_of X G a13) (by decide)⟩
    | deltas => exact ⟨_, e__BODIES_5, held_of c__deltas (PySem.W.mg_of X G a14) (by decide)⟩
  have c_body_of := ok_body_of (P := P) (w := w) (base := base) D_body_of v__BODIES w__BODIES tab
  have c__runs_values := ok__runs_values (P := P) (w := w) (base := base) D__runs_values 
  have c__deltas_values := ok__deltas_values (P := P) (w := w) (base := base) D__deltas_values 
  have c_values_of := ok_values_of (P := P) (w := w) (base := base) D_values_of c__deltas_values c__runs_values c_unpack y_list 
  have c__are_alike_0 : C8.Cal P w K mg base 4 "_are_alike" (spR__are_alike 0 K) [] := cal_no D__are_alike sc__are_alike (fun _ _ _ _ h => h.elim)
  have c__are_alike_1 := ok__are_alike (P := P) (w := w) (base := base) (rn := 0) D__are_alike c_same y_all y_isinstance y_len y_tuple y_zip  c__are_alike_0
  have c__are_alike_2 := ok__are_alike (P := P) (w := w) (base := base) (rn := 1) D__are_alike c_same y_all y_isinstance y_len y_tuple y_zip  c__are_alike_1
  have c__are_alike_3 := ok__are_alike (P := P) (w := w) (base := base) (rn := 2) D__are_alike c_same y_all y_isinstance y_len y_tuple y_zip  c__are_alike_2
  have c__are_alike_4 := ok__are_alike (P := P) (w := w) (base := base) (rn := 3) D__are_alike c_same y_all y_isinstance y_len y_tuple y_zip  c__are_alike_3
  have c__are_alike : C8.Cal P w K mg base 8 "_are_alike" (sp__are_alike K) [] := c__are_alike_4
  have c_Encoded____init__ := ok_Encoded____init__ (P := P) (w := w) (base := base) D_Encoded____init__ C_Encoded I_Encoded y_list 
  have c_Encoded__form := ok_Encoded__form (P := P) (w := w) (base := base) D_Encoded__form C_Encoded I_Encoded 
  have c_Encoded__decoded := ok_Encoded__decoded (P := P) (w := w) (base := base) D_Encoded__decoded C_Encoded I_Encoded c_values_of 
  have c_Encoded____eq__ := ok_Encoded____eq__ (P := P) (w := w) (base := base) D_Encoded____eq__ C_Encoded I_Encoded c__are_alike y_isinstance 
  have c_encode_as := ok_encode_as (P := P) (w := w) (base := base) D_encode_as C_Encoded I_Encoded c_Encoded____init__ c_body_of y_len 
  have c__law_cell := ok__law_cell (P := P) (w := w) (base := base) D__law_cell y_len 
  have c__law_state := ok__law_state (P := P) (w := w) (base := base) D__law_state y_int 
  have c__law_digit := ok__law_digit (P := P) (w := w) (base := base) D__law_digit y_int 
  have c__law_is_integer := ok__law_is_integer (P := P) (w := w) (base := base) D__law_is_integer y_bool y_int y_isinstance 
  have c__law_rank := ok__law_rank (P := P) (w := w) (base := base) D__law_rank y_bool y_int y_isinstance 
  have c__law_text := ok__law_text (P := P) (w := w) (base := base) D__law_text c__law_digit y_range 
  have c__law_value := ok__law_value (P := P) (w := w) (base := base) D__law_value c__law_digit c__law_text 
  have c__law_values := ok__law_values (P := P) (w := w) (base := base) D__law_values c__law_cell c__law_digit c__law_is_integer c__law_state c__law_value y_len y_min y_range 
  have c__law_possible := ok__law_possible (P := P) (w := w) (base := base) D__law_possible c__law_is_integer c__law_rank y_len 
  have c__law_turned := ok__law_turned (P := P) (w := w) (base := base) D__law_turned y_len y_list y_range 
  have c__law_right := ok__law_right (P := P) (w := w) (base := base) D__law_right C_Encoded I_Encoded c_Encoded__decoded c_Encoded__form c__law_is_integer y_isinstance y_len y_list y_repr nd
  exact ok_law (P := P) (w := w) (base := base)  C_Encoded I_Encoded c_Encoded____eq__ c__law_possible c__law_right c__law_turned c__law_values c_encode_as y_len y_list y_repr v_FORMS w_FORMS nd h63 hS hr
end My
open PySem PySem.W PyProof.Rows
set_option maxHeartbeats 0 in
theorem PySem.Challenge.cw_stylobate_k45_encoded_columns_holds : PySem.Challenge.rw_stylobate_k45_encoded_columns.Holds := by
  w_on; o_law; k_head; (case hw => w_witness2)
  k_fill
  refine My.walk_here (l := PySem.Challenge.rw_stylobate_k45_encoded_columns) (n := 63) (k := 9) rfl (by decide) rfl ⟨rfl, by decide, by decide⟩ (fun w h Y => PySem.W.kIn_of Y) My.sc_law ?F
  case F =>
    intro w mg fa h KX G hmg
    refine' My.all_mk KX G hmg ?qC_Encoded ?pgC_Encoded ?hdC_Encoded ?poC_Encoded ?saC_Encoded ?mkC_Encoded ?kcC_Encoded ?haC_Encoded ?hnC_Encoded ?htC_Encoded ?hmC_Encoded ?meC_Encoded ?kiC_Encoded ?niC_Encoded ?naC_Encoded_0 ?naC_Encoded_1 ?naC_Encoded_2 ?a0 ?l0 ?b0 ?k0 ?a1 ?l1 ?b1 ?k1 ?a2 ?l2 ?b2 ?k2 ?a3 ?l3 ?b3 ?k3 ?a4 ?l4 ?b4 ?k4 ?a5 ?l5 ?b5 ?k5 ?a6 ?l6 ?b6 ?k6 ?a7 ?l7 ?b7 ?k7 ?a8 ?l8 ?b8 ?k8 ?a9 ?l9 ?b9 ?k9 ?a10 ?l10 ?b10 ?k10 ?a11 ?l11 ?b11 ?k11 ?a12 ?l12 ?b12 ?k12 ?a13 ?l13 ?b13 ?k13 ?a14 ?l14 ?b14 ?k14 ?a15 ?l15 ?b15 ?k15 ?a16 ?l16 ?b16 ?k16 ?a17 ?l17 ?b17 ?k17 ?a18 ?l18 ?b18 ?k18 ?a19 ?l19 ?b19 ?k19 ?a20 ?iF20 ?l20 ?b20 ?k20 ?a21 ?gP21 ?tP21 ?rP21 ?l21 ?b21 ?k21 ?a22 ?iF22 ?l22 ?b22 ?k22 ?a23 ?iF23 ?l23 ?b23 ?k23 ?a24 ?l24 ?b24 ?k24 ?a25 ?l25 ?b25 ?k25 ?a26 ?l26 ?b26 ?k26 ?a27 ?l27 ?b27 ?k27 ?a28 ?l28 ?b28 ?k28 ?a29 ?l29 ?b29 ?k29 ?a30 ?l30 ?b30 ?k30 ?a31 ?l31 ?b31 ?k31 ?a32 ?l32 ?b32 ?k32 ?a33 ?l33 ?b33 ?k33 ?a34 ?l34 ?b34 ?k34 ?a35 ?l35 ?b35 ?k35 ?a36 ?l36 ?b36 ?k36 ?z_all ?z_bool ?z_int ?z_isinstance ?z_len ?z_list ?z_max ?z_min ?z_range ?z_repr ?z_reversed ?z_tuple ?z_zip ?q_FORMS ?r_FORMS ?q__BODIES ?ka__BODIES ?kl__BODIES ?ko__BODIES ?e__BODIES_0 ?e__BODIES_1 ?e__BODIES_2 ?e__BODIES_3 ?e__BODIES_4 ?e__BODIES_5
    (case qC_Encoded => k_is); (case pgC_Encoded => k_is); (case hdC_Encoded => k_is); (case poC_Encoded => k_is); (case saC_Encoded => k_is); (case mkC_Encoded => k_is); (case kcC_Encoded => k_is); (case haC_Encoded => k_is); (case hnC_Encoded => k_is); (case htC_Encoded => k_is); (case hmC_Encoded => k_is); (case meC_Encoded => kit_is); (case kiC_Encoded => kit_is); (case niC_Encoded => k_is); (case naC_Encoded_0 => k_is); (case naC_Encoded_1 => k_is); (case naC_Encoded_2 => k_is); (case a0 => k_is); (case l0 => k_is); (case b0 => k_is); (case k0 => k_is); (case a1 => k_is); (case l1 => k_is); (case b1 => k_is); (case k1 => k_is); (case a2 => k_is); (case l2 => k_is); (case b2 => k_is); (case k2 => k_is); (case a3 => k_is); (case l3 => k_is); (case b3 => k_is); (case k3 => k_is); (case a4 => k_is); (case l4 => k_is); (case b4 => k_is); (case k4 => k_is); (case a5 => k_is); (case l5 => k_is); (case b5 => k_is); (case k5 => k_is); (case a6 => k_is); (case l6 => k_is); (case b6 => k_is); (case k6 => k_is); (case a7 => k_is); (case l7 => k_is); (case b7 => k_is); (case k7 => k_is); (case a8 => k_is); (case l8 => k_is); (case b8 => k_is); (case k8 => k_is); (case a9 => k_is); (case l9 => k_is); (case b9 => k_is); (case k9 => k_is); (case a10 => k_is); (case l10 => k_is); (case b10 => k_is); (case k10 => k_is); (case a11 => k_is); (case l11 => k_is); (case b11 => k_is); (case k11 => k_is); (case a12 => k_is); (case l12 => k_is); (case b12 => k_is); (case k12 => k_is); (case a13 => k_is); (case l13 => k_is); (case b13 => k_is); (case k13 => k_is); (case a14 => k_is); (case l14 => k_is); (case b14 => k_is); (case k14 => k_is); (case a15 => k_is); (case l15 => k_is); (case b15 => k_is); (case k15 => k_is); (case a16 => k_is); (case l16 => k_is); (case b16 => k_is); (case k16 => k_is); (case a17 => k_is); (case l17 => k_is); (case b17 => k_is); (case k17 => k_is); (case a18 => k_is); (case l18 => k_is); (case b18 => k_is); (case k18 => k_is); (case a19 => k_is); (case l19 => k_is); (case b19 => k_is); (case k19 => k_is); (case a20 => k_is); (case iF20 => k_is); (case l20 => k_is); (case b20 => k_is); (case k20 => k_is); (case a21 => k_is); (case gP21 => k_is); (case tP21 => k_is); (case rP21 => k_is); (case l21 => k_is); (case b21 => k_is); (case k21 => k_is); (case a22 => k_is); (case iF22 => k_is); (case l22 => k_is); (case b22 => k_is); (case k22 => k_is); (case a23 => k_is); (case iF23 => k_is); (case l23 => k_is); (case b23 => k_is); (case k23 => k_is); (case a24 => k_is); (case l24 => k_is); (case b24 => k_is); (case k24 => k_is); (case a25 => k_is); (case l25 => k_is); (case b25 => k_is); (case k25 => k_is); (case a26 => k_is); (case l26 => k_is); (case b26 => k_is); (case k26 => k_is); (case a27 => k_is); (case l27 => k_is); (case b27 => k_is); (case k27 => k_is); (case a28 => k_is); (case l28 => k_is); (case b28 => k_is); (case k28 => k_is); (case a29 => k_is); (case l29 => k_is); (case b29 => k_is); (case k29 => k_is); (case a30 => k_is); (case l30 => k_is); (case b30 => k_is); (case k30 => k_is); (case a31 => k_is); (case l31 => k_is); (case b31 => k_is); (case k31 => k_is); (case a32 => k_is); (case l32 => k_is); (case b32 => k_is); (case k32 => k_is); (case a33 => k_is); (case l33 => k_is); (case b33 => k_is); (case k33 => k_is); (case a34 => k_is); (case l34 => k_is); (case b34 => k_is); (case k34 => k_is); (case a35 => k_is); (case l35 => k_is); (case b35 => k_is); (case k35 => k_is); (case a36 => k_is); (case l36 => k_is); (case b36 => k_is); (case k36 => k_is); (case z_all => k_is); (case z_bool => k_is); (case z_int => k_is); (case z_isinstance => k_is); (case z_len => k_is); (case z_list => k_is); (case z_max => k_is); (case z_min => k_is); (case z_range => k_is); (case z_repr => k_is); (case z_reversed => k_is); (case z_tuple => k_is); (case z_zip => k_is); (case q_FORMS => k_is); (case q__BODIES => k_is); (case ka__BODIES => k_is); (case e__BODIES_0 => k_is); (case e__BODIES_1 => k_is); (case e__BODIES_2 => k_is); (case e__BODIES_3 => k_is); (case e__BODIES_4 => k_is); (case e__BODIES_5 => k_is)
    (case r_FORMS => exact fun _ => .inr ⟨_, _, _, (by k_is), rfl, rfl, by decide, by repeat (first | exact .nil | refine .cons ⟨_, rfl⟩ ?_)⟩)
    (case kl__BODIES => k_keys)
    (case ko__BODIES => decide)

