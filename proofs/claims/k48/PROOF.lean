import PyProof.Rows.All
import Wide.All
import OpenK.AllK
import Wide.FinOn
import HandS.ForMost
import HandS.Codes
import HandS.Evl
import HandS.IsInst
import HandS.Wide
import HandS.WideBits
import HandS.Iter
import HandS.Rev
import KE.KEqSeq
import KE.IntBitsLaws
import HandS.Text
import PySem.Challenge.RW_stylobate_k48_checksums
set_option Elab.async false
set_option linter.all false
set_option maxRecDepth 100000
set_option maxHeartbeats 4000000
namespace My
open PySem PySem.Spec PyProof.Rows L2 Evl
/-! ### defs of the text, promises, the end -/
def Dn (K : PySem.W.Frag) (mg : Str → Option Value) (x : Str) (st : Stmt) (ps : List Str) : Prop := ∃ f fd, C8.Def K mg x st f fd ∧ Binds K fd ps []
section
variable {P : Program} {w : World} {K : PySem.W.Frag} {mg : Str → Option Value} {base : Heap}
theorem cal_of {x : Str} {st : Stmt} {N ps : List Str} {k : Nat} {sp : Sp} (D : Dn K mg x st ps) (S : FnScope N ps (C8.fnScope st)) (len : ∀ vs H Q E, sp vs H Q E → vs.length = ps.length)
    (hbody : ∀ (f : Addr) (cdv : Value) (A : Around) (outer : List Env) (s : Shared) (H : Hp) (vs : List V) (Q : VK) (E : XK), Room k (A.deeper (envOfC x (C8.fnScope st) s.heap.objs.size f cdv)) → sp vs H Q E →
      ∃ t, PSs (cxOf C8.CX0 P w K mg base N x (C8.fnScope st) f cdv A outer s H E).nox (C8.fnBody st) t ∧ t { nx := fun _ H' => Q .non H', rt := Q } (start N vs) H) : C8.Cal P w K mg base (k + 1) x sp [] := by
  obtain ⟨f, fd, F, b⟩ := D
  exact C8.cal0 F b .nil S len (hbody f)
theorem def_mk {x : Str} {st : Stmt} {f : Addr} {oc : Value} {od an : Option Addr} {osl : Array (Option Value)} {kV doc pm cdv ct : Value}
    (l : K.lookup f = some ⟨oc, od, .func (PySem.W.fnOf x x (C8.fnArgs st) (C8.fnBody st) (C8.fnScope st) .none kV doc pm an cdv ct), osl⟩)
    (c : PySem.W.codeIn K cdv x = true) (k : PySem.W.keepIn K (.ref f) = true) (m : mg x = some (.ref f)) : C8.Def K mg x st f (PySem.W.fnOf x x (C8.fnArgs st) (C8.fnBody st) (C8.fnScope st) .none kV doc pm an cdv ct) :=
  ⟨⟨oc, od, .none, kV, doc, pm, an, cdv, ct, osl, rfl, l, c⟩, m, k⟩
theorem dn_mk {x : Str} {st : Stmt} {f : Addr} {oc : Value} {od an : Option Addr} {osl : Array (Option Value)} {kV doc pm cdv ct : Value} {ps : List Str}
    (l : K.lookup f = some ⟨oc, od, .func (PySem.W.fnOf x x (C8.fnArgs st) (C8.fnBody st) (C8.fnScope st) .none kV doc pm an cdv ct), osl⟩)
    (c : PySem.W.codeIn K cdv x = true) (k : PySem.W.keepIn K (.ref f) = true) (m : mg x = some (.ref f))
    (h : ∀ (kV doc pm : Value) (an : Option Addr) (cdv ct : Value) (us : List Value), us.length = ps.length → bindArgs (PySem.W.fnOf x x (C8.fnArgs st) (C8.fnBody st) (C8.fnScope st) .none kV doc pm an cdv ct) ⟨us, []⟩ = pure (ps.zip us)) : Dn K mg x st ps :=
  ⟨f, _, def_mk l c k m, C8.Fun.binds (def_mk l c k m).fn rfl h⟩
end
/-! ### x is True, x is False, of any value -/
def rIsT : R2 := fun x y H Q => ∃ b : Bool, y = .bl b ∧ Q (.bl (decide (x = .bl b))) H
def rNotT : R2 := fun x y H Q => ∃ b : Bool, y = .bl b ∧ Q (.bl (!decide (x = .bl b))) H
section
variable {X : Cx}
theorem rel_bl {x : V} {v : Value} {b : Bool} (rx : RelV x v) : PySem.plainIs v (.bool b) = true ∧ (v == .bool b) = decide (x = .bl b) ∨ ∃ n, v = .builtin n := by
  cases x with
  | non => cases (show v = Value.none from rx); exact .inl ⟨rfl, rfl⟩
  | bl c => cases (show v = Value.bool c from rx); exact .inl ⟨rfl, by cases b <;> cases c <;> rfl⟩
  | int i => obtain ⟨t, e⟩ := (show ∃ t, v = Value.int i t from rx); cases e; exact .inl ⟨rfl, rfl⟩
  | str i => obtain ⟨t, e⟩ := (show ∃ t, v = Value.str i t from rx); cases e; exact .inl ⟨rfl, rfl⟩
  | byt i => obtain ⟨t, e⟩ := (show ∃ t, v = Value.bytes i t from rx); cases e; exact .inl ⟨rfl, rfl⟩
  | flt i => obtain ⟨t, e⟩ := (show ∃ t, v = Value.float i t from rx); cases e; exact .inl ⟨rfl, rfl⟩
  | ref a => cases (show v = Value.ref a from rx); exact .inl ⟨rfl, rfl⟩
  | ty n => cases (show v = Value.type n from rx); exact .inl ⟨rfl, rfl⟩
theorem rel_bl' {x : V} {v : Value} {b : Bool} (rx : RelV x v) : PySem.plainIs v (.bool b) = true ∧ (v == .bool b) = decide (x = .bl b) := by
  rcases rel_bl (b := b) rx with h | ⟨n, rfl⟩
  · exact h
  · cases x <;> first | exact nomatch (rx : Value.builtin n = _) | (obtain ⟨t, e⟩ := rx; exact nomatch e)
theorem op_isTF : OpR X (compareOp .Is) rIsT := by
  intro pins s σ H x y v u Q I rx ry h
  obtain ⟨b, rfl, q⟩ := h
  cases (show u = Value.bool b from ry)
  obtain ⟨h1, h2⟩ := rel_bl' (b := b) rx
  exact wpAny_is_plain h1 ⟨.bl _, H, I, rfl, by rw [h2]; exact q⟩
theorem op_notTF : OpR X (compareOp .IsNot) rNotT := by
  intro pins s σ H x y v u Q I rx ry h
  obtain ⟨b, rfl, q⟩ := h
  cases (show u = Value.bool b from ry)
  obtain ⟨h1, h2⟩ := rel_bl' (b := b) rx
  exact wpAny_isNot_plain h1 ⟨.bl _, H, I, rfl, by rw [h2]; exact q⟩
end
/-! ### what evaluates to what: further -/
section
variable {K : PySem.W.Frag} {σ : L2.St} {H H' : Hp} {ta tb te tx : TE} {t u : TT} {x y z v : V} {r : R2}
theorem rv_isT {b : Bool} : RV rIsT x (.bl b) H (.bl (decide (x = .bl b))) := fun H1 _ _ q => ⟨b, rfl, q H1 (Ex.refl H1)⟩
theorem rv_notT {b : Bool} : RV rNotT x (.bl b) H (.bl (!decide (x = .bl b))) := fun H1 _ _ q => ⟨b, rfl, q H1 (Ex.refl H1)⟩
theorem rv_isN : RV (fun x y H Q => y = .non ∧ Q (.bl (decide (x = .non))) H) x .non H (.bl (decide (x = .non))) := fun H1 _ _ q => ⟨rfl, q H1 (Ex.refl H1)⟩
theorem rv_notN : RV (fun x y H Q => y = .non ∧ Q (.bl (!decide (x = .non))) H) x .non H (.bl (!decide (x = .non))) := fun H1 _ _ q => ⟨rfl, q H1 (Ex.refl H1)⟩
theorem ev_int {i : Int} (h : Ev ta σ H (.int i)) : Ev (tCB (fun xs H Q => (∃ i, xs = [.int i] ∧ Q (.int i) H) ∨ ∃ k, xs = [.bl k] ∧ Q (.int (if k then 1 else 0)) H) (tCons ta tNil)) σ H (.int i) :=
  fun H1 e Q q => h H1 e _ fun H2 e2 => .inl ⟨i, rfl, q H2 e2⟩
theorem ev_intB {b : Bool} (h : Ev ta σ H (.bl b)) : Ev (tCB (fun xs H Q => (∃ i, xs = [.int i] ∧ Q (.int i) H) ∨ ∃ k, xs = [.bl k] ∧ Q (.int (if k then 1 else 0)) H) (tCons ta tNil)) σ H (.int (if b then 1 else 0)) :=
  fun H1 e Q q => h H1 e _ fun H2 e2 => .inr ⟨b, rfl, q H2 e2⟩
theorem ev_abs {i : Int} (h : Ev ta σ H (.int i)) : Ev (tCB (fun xs H Q => ∃ i, xs = [.int i] ∧ Q (.int (if i < 0 then -i else i)) H) (tCons ta tNil)) σ H (.int (if i < 0 then -i else i)) :=
  fun H1 e Q q => h H1 e _ fun H2 e2 => ⟨i, rfl, q H2 e2⟩
theorem ev_min2 {i j : Int} (ha : Ev ta σ H (.int i)) (hb : Ev tb σ H (.int j)) : Ev (tCB (fun xs H Q => ∃ i j, xs = [.int i, .int j] ∧ Q (.int (if j < i then j else i)) H) (tCons ta (tCons tb tNil))) σ H (.int (if j < i then j else i)) := fun H1 e Q q =>
  ha H1 e _ fun H2 e2 => hb H2 (e.trans e2) _ fun H3 e3 => ⟨i, j, rfl, q H3 (e2.trans e3)⟩
theorem ev_lenS {s : Str} (h : Ev ta σ H (.str s)) (hz : s.length ≤ 100000) : Ev (tCB (fun xs H Q => ∃ z, xs = [.str z] ∧ z.length ≤ sizeLine ∧ Q (.int z.length) H) (tCons ta tNil)) σ H (.int s.length) :=
  fun H1 e Q q => h H1 e _ fun H2 e2 => ⟨s, rfl, sz_of hz, q H2 e2⟩
/-- isinstance(x, T) of a plain value -/
def tyOf : V → String
  | .non => "NoneType"
  | .bl _ => "bool"
  | .int _ => "int"
  | .str _ => "str"
  | .byt _ => "bytes"
  | .flt _ => "float"
  | _ => "?"
def isTy (x : V) (T : String) : Bool := ((kitB (tyOf x) T).getD false)
theorem ev_isi {T : String} {tn : String} {b : Bool} (ha : Ev ta σ H x) (ht : ∀ H1, TyX K H1 x (.type tn)) (hk : kitB tn T = some b) : Ev (tCB (rIsi K) (tCons ta (tCons (tC (.ty T)) tNil))) σ H (.bl b) :=
  fun H1 e Q q => ha H1 e _ fun H2 e2 => ⟨x, .ty T, .type tn, .type T, b, rfl, .ty T, ht H2, kit_ty hk, q H2 e2⟩
theorem tx_int (i : Int) (H1 : Hp) : TyX K H1 (.int i) (.type "int") := .base (.int i)
theorem tx_bl (i : Bool) (H1 : Hp) : TyX K H1 (.bl i) (.type "bool") := .base (.bl i)
theorem tx_str (i : Str) (H1 : Hp) : TyX K H1 (.str i) (.type "str") := .base (.str i)
theorem tx_non (H1 : Hp) : TyX K H1 .non (.type "NoneType") := .base .non
section
variable {D : Ends} {tz : TS}
/-- if c: x = e, an int: told by the value x has behind it -/
theorem q_ifI {b : Bool} {i : Nat} {p q : Int} (h : EvT t σ H b) (h1 : b = true → Ev te σ H (.int p)) (h0 : σ[i]? = some (some (.int q))) (k : ∀ H1, Ex H H1 → tz D (σ.set i (some (.int (if b = true then p else q)))) H1) : tSeq (tIfS t (tAsg te (gName i)) tNext) tz D σ H := by
  refine q_ifAsg h (fun hb => ?_) (fun hb => ?_) k
  · rw [if_pos hb]
    exact h1 hb
  · rw [hb]
    show σ.set i (some (V.int q)) = σ
    apply List.ext_getElem?
    intro j
    rw [List.getElem?_set]
    split
    · rename_i e
      subst e
      rw [h0]
      have := (List.getElem?_eq_some_iff.mp h0).1
      rw [if_pos this]
    · rfl
end
/-- a promise of one value, all else as it was -/
theorem spv {sp : Sp} {vs : List V} (h : ∀ H1, Ex H H1 → ∀ Q : VK, (∀ H2, Ex H1 H2 → Q z H2) → ∀ E : XK, sp vs H1 Q E) : SpV sp vs H z := h
end
local macro_rules | `(tactic| walk_at "side") => `(tactic| first
  | exact .inr ⟨by decide, by decide⟩
  | exact .inl ⟨by decide, by decide⟩
  | exact .inl ⟨by omega, by omega⟩
  | exact .inr ⟨by omega, by omega⟩
  | exact ⟨by decide, by decide⟩
  | exact ⟨by omega, by omega⟩
  | decide
  | (show (_ : Int) < _; omega)
  | omega)
local macro_rules | `(tactic| walk_at "rv") => `(tactic| first
  | exact rv_I0
  | ((refine' rv_I ?k1); (case k1 => walk_at "side"))
  | exact rv_isT
  | exact rv_notT
  | exact rv_isN
  | exact rv_notN
  | exact rv_eq rfl
  | exact rv_ne rfl)
local macro_rules | `(tactic| walk_at "sq") => `(tactic| first | assumption | exact ex_l (by assumption) (by assumption) | exact sq_of (by assumption))
/-- what a part gives, read off its form -/
local macro_rules | `(tactic| walk_at "ev") => `(tactic| first
  | exact ev_var rfl
  | exact ev_c
  | ((with_reducible refine' ev_op ?k1 ?k2 ?k3); (case k1 => walk_at "ev"); (case k2 => walk_at "ev"); (case k3 => walk_at "rv"))
  | ((with_reducible refine' ev_un ?k1 ?k2); (case k1 => walk_at "ev"); (case k2 => exact ru_neg))
  | ((with_reducible refine' ev_int ?k1); (case k1 => walk_at "ev"))
  | ((with_reducible refine' ev_abs ?k1); (case k1 => walk_at "ev"))
  | ((with_reducible refine' ev_andV ?k1 ?k2); (case k1 => walk_at "ev"); (case k2 => intro _; walk_at "ev"))
  | ((with_reducible refine' ev_orV ?k1 ?k2); (case k1 => walk_at "ev"); (case k2 => intro _; walk_at "ev"))
  | ((with_reducible refine' ev_notV ?k1); (case k1 => walk_at "ev"))
  | ((refine' ev_len ?k1 ?k2); (case k1 => walk_at "ev"); (case k2 => walk_at "sq")))
local macro_rules | `(tactic| walk_at "et") => `(tactic| first
  | ((with_reducible refine' et_or ?k1 ?k2); (case k1 => walk_at "et"); (case k2 => intro _; walk_at "et"))
  | ((with_reducible refine' et_and ?k1 ?k2); (case k1 => walk_at "et"); (case k2 => intro _; walk_at "et"))
  | ((with_reducible refine' et_not ?k1); (case k1 => walk_at "et"))
  | (refine' et_test ?k1; (case k1 => walk_at "ev"))
  | (refine' et_B ?k1; (case k1 => walk_at "ev")))

/-! ### tuples made, tuples read, data compared -/
def SpU (sp : Sp) (vs : List V) (H : Hp) (xs : List V) : Prop := ∀ H1, Ex H H1 → ∀ Q : VK, (∀ p H2, H1 p = none → Ex H1 H2 → H2 p = some (.tup xs) → Q (.ref p) H2) → ∀ E : XK, sp vs H1 Q E
section
variable {K : PySem.W.Frag} {σ : L2.St} {H H' : Hp} {ta tb te : TE} {x y z v : V}
theorem eu_call {sp : Sp} {dvs vs xs : List V} {E : XK} {ta : TA} (h : EvA ta σ H vs) (hs : SpU sp (vs ++ dvs) H xs) : EvU (tCall sp dvs E ta) σ H xs := fun H1 e Q q =>
  h H1 e _ fun H2 e2 => hs H2 (e.trans e2) Q (fun p H3 hp e3 h3 => q p H3 (fresh_back e2 hp) (e2.trans e3) h3) E
theorem ev_lenT {p : Addr} {xs : List V} (ha : Ev ta σ H (.ref p)) (h : SqT K H p xs) : Ev (tCB (fun xs H Q => ∃ p ys, xs = [.ref p] ∧ (SqL K H p ys ∨ SqT K H p ys) ∧ Q (.int ys.length) H) (tCons ta tNil)) σ H (.int (xs.length : Int)) := fun H1 e Q q =>
  ha H1 e _ fun H2 e2 => ⟨p, xs, rfl, Or.inr (ex_t (e.trans e2) h), q H2 e2⟩
theorem eu_divmod {i j : Int} (ha : Ev ta σ H (.int i)) (hb : Ev tb σ H (.int j)) (hc : CDiv i j) :
    EvU (tCB (fun xs H Q => ∃ i j, xs = [.int i, .int j] ∧ CDiv i j ∧ ∀ p, H p = none → Q (.ref p) (upd H p (.tup [.int (i / j), .int (i % j)]))) (tCons ta (tCons tb tNil))) σ H [.int (i / j), .int (i % j)] := fun H1 e Q q =>
  ha H1 e _ fun H2 e2 => hb H2 (e.trans e2) _ fun H3 e3 => ⟨i, j, rfl, hc, fun p hp => q p _ (fresh_back (e2.trans e3) hp) ((e2.trans e3).trans (Ex.new hp)) upd_same⟩
theorem dp_ints : ∀ ns : List Int, DpAll K H (ns.map V.int) (ns.map PyData.int)
  | [] => .nil
  | n :: r => .cons (.int n) (dp_ints r)
theorem eqv_ints : ∀ ns ms : List Int, PyData.eqv (.tuple (ns.map PyData.int)) (.tuple (ms.map PyData.int)) = decide (ns = ms)
  | [], [] => rfl
  | [], _ :: _ => rfl
  | _ :: _, [] => rfl
  | n :: r, m :: t => by
    have ih := eqv_ints r t
    show ((n == m) && PyData.eqv (.tuple (r.map PyData.int)) (.tuple (t.map PyData.int))) = _
    rw [ih, Bool.eq_iff_iff, Bool.and_eq_true, decide_eq_true_eq, decide_eq_true_eq, beq_iff_eq, List.cons.injEq]
theorem dp_tup {p : Addr} {ns : List Int} (h : SqT K H p (ns.map V.int)) : Dp K H (.ref p) (.tuple (ns.map PyData.int)) := .tup h (dp_ints ns)
def shI (n : Nat) : Bool := SeqAt.shaped (.tuple ((List.replicate n 0).map PyData.int))
theorem rv_neT {p q : Addr} {ns ms : List Int} (hp : SqT K H p (ns.map V.int)) (hq : SqT K H q (ms.map V.int)) (s1 : SeqAt.shaped (.tuple (ns.map PyData.int)) = true) (s2 : SeqAt.shaped (.tuple (ms.map PyData.int)) = true) : RV (rNeD K) (.ref p) (.ref q) H (.bl (!decide (ns = ms))) := fun H1 e Q k =>
  ⟨_, _, dp_tup (ex_t e hp), dp_tup (ex_t e hq), s1, s2, by rw [eqv_ints]; exact k H1 (Ex.refl H1)⟩
theorem tx_tup {a : Addr} {xs : List V} (h : H a = some (.tup xs)) : ∀ H1, Ex H H1 → TyX K H1 (.ref a) (.type "tuple") := fun H1 e => .base (.tup (e _ _ h))
theorem ev_isi' {T : String} {tn : String} {b : Bool} (ha : Ev ta σ H x) (ht : ∀ H1, Ex H H1 → TyX K H1 x (.type tn)) (hk : kitB tn T = some b) : Ev (tCB (rIsi K) (tCons ta (tCons (tC (.ty T)) tNil))) σ H (.bl b) :=
  fun H1 e Q q => ha H1 e _ fun H2 e2 => ⟨x, .ty T, .type tn, .type T, b, rfl, .ty T, ht H2 (e.trans e2), kit_ty hk, q H2 e2⟩
theorem ev_chain {r r' : R2} {tc : TE} {b c : Bool} (ha : Ev ta σ H x) (hb : Ev tb σ H y) (hr : RV r x y H (.bl b)) (hc : b = true → Ev tc σ H z) (hr' : b = true → RV r' y z H (.bl c)) : Ev (tChain r r' ta tb tc) σ H (.bl (b && c)) := fun H1 e Q q =>
  ha H1 e _ fun H2 e2 => hb H2 (e.trans e2) _ fun H3 e3 => hr H3 ((e.trans e2).trans e3) _ fun H4 e4 => ⟨b, rfl, by
    cases b with
    | true =>
      show tc σ H4 fun w' H5 => r' y w' H5 Q
      exact hc rfl H4 (((e.trans e2).trans e3).trans e4) _ fun H5 e5 => hr' rfl H5 ((((e.trans e2).trans e3).trans e4).trans e5) Q fun H6 e6 => q H6 ((((e2.trans e3).trans e4).trans e5).trans e6)
    | false =>
      show Q (.bl false) H4
      exact q H4 ((e2.trans e3).trans e4)⟩
/-- a, b = (..): a new tuple unpacked into names -/
theorem gt2 {p : Addr} {i j : Nat} (h : SqT K H p [x, y]) {Q : L2.St → Hp → Prop} (k : Q ((σ.set i (some x)).set j (some y)) H) : gTup K 2 (gCons (gName i) (gCons (gName j) gNil)) (.ref p) σ H Q :=
  ⟨p, [x, y], rfl, h, rfl, x, [y], rfl, y, [], rfl, rfl, k⟩
theorem gt3 {p : Addr} {i j l : Nat} (h : SqT K H p [x, y, z]) {Q : L2.St → Hp → Prop} (k : Q (((σ.set i (some x)).set j (some y)).set l (some z)) H) : gTup K 3 (gCons (gName i) (gCons (gName j) (gCons (gName l) gNil))) (.ref p) σ H Q :=
  ⟨p, [x, y, z], rfl, h, rfl, x, [y, z], rfl, y, [z], rfl, z, [], rfl, rfl, k⟩
end
theorem hu64 {A : Around} {k : Nat} (hr : Room k A) : A.units + 64 < cLine := by
  have := hr.un
  omega
section
variable {K : PySem.W.Frag} {σ : L2.St} {H : Hp} {te : TE} {D : Ends} {tz : TS} {g : TG} {xs : List V}
theorem q_asgG (h : EvU te σ H xs) (k : ∀ p H1, H p = none → Ex H H1 → H1 p = some (.tup xs) → g (.ref p) σ H1 (tz D)) : tSeq (tAsg te g) tz D σ H := h H (Ex.refl H) _ fun p H1 hp e h1 => k p H1 hp e h1
theorem q_asgV {v : V} (h : Ev te σ H v) (k : ∀ H1, Ex H H1 → g v σ H1 (tz D)) : tSeq (tAsg te g) tz D σ H := h H (Ex.refl H) _ fun H1 e => k H1 e
end
/-! ### plain values and their types -/
inductive Pl : V → Prop where
  | non : Pl .non
  | bl (b : Bool) : Pl (.bl b)
  | int (i : Int) : Pl (.int i)
  | str (s : Str) : Pl (.str s)
def tyN : V → String
  | .bl _ => "bool"
  | .int _ => "int"
  | .str _ => "str"
  | _ => "NoneType"
def isInt : V → Bool
  | .int _ => true
  | _ => false
theorem tx_pl {K : PySem.W.Frag} {x : V} (h : Pl x) (H1 : Hp) : TyX K H1 x (.type (tyN x)) := by
  cases h with
  | non => exact .base .non
  | bl b => exact .base (.bl b)
  | int i => exact .base (.int i)
  | str s => exact .base (.str s)
theorem ev_isiP {K : PySem.W.Frag} {σ : L2.St} {H : Hp} {ta : TE} {x : V} {T : String} {b : Bool} (ha : Ev ta σ H x) (hx : Pl x) (hk : kitB (tyN x) T = some b) : Ev (tCB (rIsi K) (tCons ta (tCons (tC (.ty T)) tNil))) σ H (.bl b) :=
  ev_isi ha (tx_pl hx) hk
/-- isinstance(x, int) and not isinstance(x, bool) -/
theorem ev_isInt {K : PySem.W.Frag} {σ : L2.St} {H : Hp} {ta tb : TE} {x : V} (ha : Ev ta σ H x) (hb : Ev tb σ H x) (hx : Pl x) :
    Ev (tAndV (tCB (rIsi K) (tCons ta (tCons (tC (.ty "int")) tNil))) (tNotV (tCB (rIsi K) (tCons tb (tCons (tC (.ty "bool")) tNil))))) σ H (.bl (isInt x)) := by
  cases hx with
  | non => exact ev_is (ev_andV (ev_isiP (b := false) ha .non (by decide +kernel)) fun z => nomatch z) (show V.bl (false && true) = _ from rfl)
  | bl b => exact ev_is (ev_andV (ev_isiP (b := true) ha (.bl b) (by show kitB "bool" "int" = some true; decide +kernel)) fun _ => ev_notV (ev_isiP (b := true) hb (.bl b) (by show kitB "bool" "bool" = some true; decide +kernel))) rfl
  | int i => exact ev_is (ev_andV (ev_isiP (b := true) ha (.int i) (by show kitB "int" "int" = some true; decide +kernel)) fun _ => ev_notV (ev_isiP (b := false) hb (.int i) (by show kitB "int" "bool" = some false; decide +kernel))) rfl
  | str s => exact ev_is (ev_andV (ev_isiP (b := false) ha (.str s) (by show kitB "str" "int" = some false; decide +kernel)) fun z => nomatch z) (show V.bl (false && true) = _ from rfl)

/-! ### further loops: reversed(a list), range(n - 1, -1, -1), a new tuple -/
section
variable {K : PySem.W.Frag} {σ : L2.St} {H H' : Hp} {D : Ends} {tz tu : TS} {te tl : TE} {g : TG}
theorem s_break (h : D.bk σ H) : tBreak D σ H := h
theorem q_forRev {a : Addr} {xs : List V} {tr : TA} {j : Nat} (h : EvA tr σ H [.ref a]) (hS : SqL K H a xs) (Pv : Nat → L2.St → Hp → Prop) (h0 : ∀ H1, Ex H H1 → Pv 0 σ H1) (hl : ∀ i σ' H', Pv i σ' H' → SqL K H' a xs)
    (hs : ∀ (i : Nat) x σ' H', i < xs.length → xs[xs.length - 1 - i]? = some x → Pv i σ' H' → tu { D with nx := Pv (i + 1), ct := Pv (i + 1), bk := tz D } (σ'.set j (some x)) H') (hd : ∀ σ' H', Pv xs.length σ' H' → tz D σ' H') : tSeq (tFor (iRev K tr) (gName j) tu) tz D σ H :=
  h H (Ex.refl H) _ fun H1 e => ⟨a, xs, rfl, ex_l e hS, RT.for_Itv (D := { D with nx := tz D }) Pv (h0 H1 e) hl hs hd⟩
theorem s_forDown {tr : TA} {j n : Nat} (h : EvA tr σ H [.int ((n : Int) - 1), .int (-1), .int (-1)]) (hn : n ≤ 100000) (Pv : Nat → L2.St → Hp → Prop) (h0 : ∀ H1, Ex H H1 → Pv 0 σ H1)
    (hs : ∀ (i : Nat) σ' H', i < n → Pv i σ' H' → tu { D with nx := Pv (i + 1), ct := Pv (i + 1), bk := D.nx } (σ'.set j (some (.int (((n - 1 - i : Nat) : Int))))) H') (hd : ∀ σ' H', Pv n σ' H' → D.nx σ' H') : tFor (iRng3 tr) (gName j) tu D σ H := by
  refine h H (Ex.refl H) _ fun H1 e => ⟨(n : Int) - 1, -1, -1, ((n : Int) - 1 - (-1)).toNat, rfl, RgC.neg (by omega) (by omega) (by omega) (by omega), for_rangeC Pv (h0 H1 e) (fun i σ' H' hi p => ?_) fun σ' H' p => hd σ' H' ?_⟩
  · have e0 : (n : Int) - 1 + (i : Nat) * (-1) = ((n - 1 - i : Nat) : Int) := by omega
    show tu { D with nx := Pv (i + 1), ct := Pv (i + 1), bk := D.nx } (σ'.set j (some (.int ((n : Int) - 1 + (i : Nat) * (-1))))) H'
    rw [e0]
    exact hs i σ' H' (by omega) p
  · rw [show ((n : Int) - 1 - (-1)).toNat = n by omega] at p
    exact p
theorem q_forDown {tr : TA} {j n : Nat} (h : EvA tr σ H [.int ((n : Int) - 1), .int (-1), .int (-1)]) (hn : n ≤ 100000) (Pv : Nat → L2.St → Hp → Prop) (h0 : ∀ H1, Ex H H1 → Pv 0 σ H1)
    (hs : ∀ (i : Nat) σ' H', i < n → Pv i σ' H' → tu { D with nx := Pv (i + 1), ct := Pv (i + 1), bk := tz D } (σ'.set j (some (.int (((n - 1 - i : Nat) : Int))))) H') (hd : ∀ σ' H', Pv n σ' H' → tz D σ' H') : tSeq (tFor (iRng3 tr) (gName j) tu) tz D σ H :=
  s_forDown (D := { D with nx := tz D }) h hn Pv h0 hs hd
/-- over a new tuple: the turns' word speaks of what grows out of H1 -/
theorem q_forU {xs : List V} {j : Nat} (h : EvU tl σ H xs) (Pv : Nat → L2.St → Hp → Prop) (h0 : Pv 0 σ H) (hm : ∀ i σ' H1 H2, Pv i σ' H1 → Ex H1 H2 → Pv i σ' H2)
    (hs : ∀ i x σ' H1, xs[i]? = some x → Pv i σ' H1 → ∀ N : L2.St → Hp → Prop, (∀ σ2 H2, Pv (i + 1) σ2 H2 → Ex H1 H2 → N σ2 H2) → tu { D with nx := N, ct := N, bk := tz D } (σ'.set j (some x)) H1) (hd : ∀ σ' H', Pv xs.length σ' H' → tz D σ' H') : tSeq (tFor (iTup K tl) (gName j) tu) tz D σ H :=
  h H (Ex.refl H) _ fun p H1 hp e h1 => ⟨p, rfl, ⟨xs, st_of h1⟩, for_tup (D := { D with nx := tz D }) (fun i σ' H' => Pv i σ' H' ∧ H' p = some (.tup xs)) ⟨hm _ _ _ _ h0 e, h1⟩ (fun i σ' H' _ q => st_of q.2)
    (fun i x σ' H' hx q => hs i x σ' H' hx q.1 _ fun σ2 H2 q2 e2 => ⟨q2, e2 _ _ q.2⟩) fun σ' H' q => hd σ' H' q.1⟩
end

def topS (i : Nat) : Stmt := PySem.Challenge.pw_stylobate_k48_checksums.main.body.getD i (.Pass ⟨0, 0, 0, 0⟩)
abbrev s__checksum_of_octet : Stmt := topS 3
abbrev n__checksum_of_octet : List Str := ["octet", "number", "_"]
theorem sc__checksum_of_octet : FnScope n__checksum_of_octet ["octet"] (C8.fnScope s__checksum_of_octet) := C8.fnScope_by (by decide +kernel)
abbrev s_checksum : Stmt := topS 4
abbrev n_checksum : List Str := ["octets", "table", "number", "octet"]
theorem sc_checksum : FnScope n_checksum ["octets"] (C8.fnScope s_checksum) := C8.fnScope_by (by decide +kernel)
abbrev s__law_cell : Stmt := topS 6
abbrev n__law_cell : List Str := ["script", "k"]
theorem sc__law_cell : FnScope n__law_cell ["script", "k"] (C8.fnScope s__law_cell) := C8.fnScope_by (by decide +kernel)
abbrev s__law_state : Stmt := topS 7
abbrev n__law_state : List Str := ["cell", "k", "prime", "first", "second", "third", "fourth"]
theorem sc__law_state : FnScope n__law_state ["cell", "k"] (C8.fnScope s__law_state) := C8.fnScope_by (by decide +kernel)
abbrev s__law_digit : Stmt := topS 8
abbrev n__law_digit : List Str := ["state", "many", "digit"]
theorem sc__law_digit : FnScope n__law_digit ["state", "many"] (C8.fnScope s__law_digit) := C8.fnScope_by (by decide +kernel)
abbrev s__law_is_integer : Stmt := topS 9
abbrev n__law_is_integer : List Str := ["told"]
theorem sc__law_is_integer : FnScope n__law_is_integer ["told"] (C8.fnScope s__law_is_integer) := C8.fnScope_by (by decide +kernel)
abbrev s__law_turned_bits : Stmt := topS 10
abbrev n__law_turned_bits : List Str := ["number", "turned", "k"]
theorem sc__law_turned_bits : FnScope n__law_turned_bits ["number"] (C8.fnScope s__law_turned_bits) := C8.fnScope_by (by decide +kernel)
abbrev s__law_crc : Stmt := topS 11
abbrev n__law_crc : List Str := ["octets", "rest", "octet", "k", "bit", "j", "top"]
theorem sc__law_crc : FnScope n__law_crc ["octets"] (C8.fnScope s__law_crc) := C8.fnScope_by (by decide +kernel)
abbrev s_law : Stmt := topS 12
abbrev n_law : List Str := ["script", "octets", "k", "given", "told", "state", "place", "other"]
theorem sc_law : FnScope n_law ["script"] (C8.fnScope s_law) := C8.fnScope_by (by decide +kernel)
/-! ### a list that is drawn from: its one object may change -/
def wo (p : Addr) (H : Hp) : Hp := fun a => if a = p then none else H a
theorem wo_self (p : Addr) (H : Hp) : wo p H p = none := if_pos rfl
theorem wo_ne {p a : Addr} {H : Hp} (h : a ≠ p) : wo p H a = H a := if_neg h
theorem wo_le (p : Addr) (H : Hp) : Ex (wo p H) H := fun a o h => by
  unfold wo at h
  split at h
  · cases h
  · exact h
theorem wx_of {p : Addr} {H H' : Hp} (e : Ex H H') : Ex (wo p H) H' := (wo_le p H).trans e
theorem wx_trans {p : Addr} {H1 H2 H3 : Hp} (a : Ex (wo p H1) H2) (b : Ex (wo p H2) H3) : Ex (wo p H1) H3 := fun x o h => b x o (by
  have hx : x ≠ p := fun z => by
    rw [z, wo_self] at h
    cases h
  rw [wo_ne hx]
  exact a x o h)
theorem wx_back {p : Addr} {H0 H1 H2 : Hp} (h : H0 p = none) (e : Ex H0 H1) (x : Ex (wo p H1) H2) : Ex H0 H2 := fun a o ha => x a o (by
  have hx : a ≠ p := fun z => by
    rw [z, h] at ha
    cases ha
  rw [wo_ne hx]
  exact e a o ha)
theorem wx_to {p : Addr} {H0 H1 : Hp} (h : H0 p = none) (e : Ex H0 H1) : Ex H0 (wo p H1) := wx_back h e (fun _ _ z => z)
theorem wx_mut {p : Addr} {H1 H2 : Hp} {o : HO} (e : Ex (wo p H1) H2) : Ex (wo p H1) (upd H2 p o) := Ex.mut e (wo_self p H1)
def Dr (p : Addr) (H : Hp) : Prop := ∃ s : Int, 0 ≤ s ∧ H p = some (.lst [.int s])
theorem Dr.ex {p : Addr} {H H' : Hp} (d : Dr p H) (e : Ex H H') : Dr p H' := by
  obtain ⟨s, h0, h⟩ := d
  exact ⟨s, h0, e _ _ h⟩
/-- a value that is drawn: one of those with the word P -/
def EvD1 (te : TE) (σ : L2.St) (p : Addr) (H : Hp) (P : V → Prop) : Prop := ∀ H1, Ex (wo p H) H1 → Dr p H1 → ∀ Q : VK, (∀ v H2, P v → Ex (wo p H1) H2 → Dr p H2 → Q v H2) → te σ H1 Q
def EvDT (tt : TT) (σ : L2.St) (p : Addr) (H : Hp) (P : Bool → Prop) : Prop := ∀ H1, Ex (wo p H) H1 → Dr p H1 → ∀ Q : Bool → Hp → Prop, (∀ b H2, P b → Ex (wo p H1) H2 → Dr p H2 → Q b H2) → tt σ H1 Q
def ZP (P : Int → Prop) : V → Prop := fun v => ∃ i, v = .int i ∧ P i
/-- a value of which a word alone is known, all else as it was -/
def EvN (te : TE) (σ : L2.St) (H : Hp) (P : V → Prop) : Prop := ∀ H1, Ex H H1 → ∀ Q : VK, (∀ v H2, P v → Ex H1 H2 → Q v H2) → te σ H1 Q
/-- a new list to draw from -/
def EvC (te : TE) (σ : L2.St) (H : Hp) : Prop := ∀ H1, Ex H H1 → ∀ Q : VK, (∀ p H2, H1 p = none → Ex H1 H2 → Dr p H2 → Q (.ref p) H2) → te σ H1 Q
def sp__law_cell (K : PySem.W.Frag) : Sp := fun vs H Q _ => ∃ (a : Addr) (ns : List Int) (k : Int), vs = [.ref a, .int k] ∧ SqL K H a (ns.map V.int) ∧ 0 ≤ k ∧ ∀ H', Ex H H' → Q (.int (ns.getD k.toNat 0)) H'
def sp__law_state (K : PySem.W.Frag) : Sp := fun vs H Q _ => ∃ c k : Int, vs = [.int c, .int k] ∧ ∀ p H', H p = none → Ex H H' → Dr p H' → Q (.ref p) H'
def sp__law_digit (K : PySem.W.Frag) : Sp := fun vs H Q _ => ∃ (p : Addr) (m : Int), vs = [.ref p, .int m] ∧ Dr p H ∧ 0 < m ∧ m < 2 ^ 400 ∧ ∀ d H', 0 ≤ d → d < m → Ex (wo p H) H' → Dr p H' → Q (.int d) H'
section
variable {K : PySem.W.Frag} {σ : L2.St} {H H' : Hp} {p : Addr} {ta tb te tx : TE} {t u : TT} {x y z v : V} {r : R2} {P R S : V → Prop} {PI RI SI : Int → Prop} {D : Ends} {tz tu tw : TS} {E : XK}
theorem e1_pure (h : Ev te σ (wo p H) v) (hv : P v) : EvD1 te σ p H P := fun H1 e d Q q => h H1 e Q fun H2 e2 => q v H2 hv (wx_of e2) (d.ex e2)
theorem e1_int {i : Int} (h : Ev te σ (wo p H) (.int i)) (hv : PI i) : EvD1 te σ p H (ZP PI) := e1_pure h ⟨i, rfl, hv⟩
theorem e1_mono (h : EvD1 te σ p H P) (k : ∀ v, P v → R v) : EvD1 te σ p H R := fun H1 e d Q q => h H1 e d Q fun v H2 hv e2 d2 => q v H2 (k v hv) e2 d2
theorem ez_mono (h : EvD1 te σ p H (ZP PI)) (k : ∀ i, PI i → RI i) : EvD1 te σ p H (ZP RI) := e1_mono h fun v ⟨i, e, hi⟩ => ⟨i, e, k i hi⟩
theorem ez_op {C : Int → Int → Prop} {g : Int → Int → Int} (ha : EvD1 ta σ p H (ZP PI)) (hb : EvD1 tb σ p H (ZP RI)) (hc : ∀ i j, PI i → RI j → C i j ∧ SI (g i j)) : EvD1 (tOp (rI C fun i j => .int (g i j)) ta tb) σ p H (ZP SI) := fun H1 e d Q q =>
  ha H1 e d _ fun v H2 ⟨i, ev, hi⟩ e2 d2 => hb H2 (wx_trans e e2) d2 _ fun w H3 ⟨j, ew, hj⟩ e3 d3 => ⟨i, j, ev, ew, (hc i j hi hj).1, q _ H3 ⟨_, rfl, (hc i j hi hj).2⟩ (wx_trans e2 e3) d3⟩
theorem ez_op0 {g : Int → Int → Int} (ha : EvD1 ta σ p H (ZP PI)) (hb : EvD1 tb σ p H (ZP RI)) (hc : ∀ i j, PI i → RI j → SI (g i j)) : EvD1 (tOp (rI0 fun i j => .int (g i j)) ta tb) σ p H (ZP SI) := fun H1 e d Q q =>
  ha H1 e d _ fun v H2 ⟨i, ev, hi⟩ e2 d2 => hb H2 (wx_trans e e2) d2 _ fun w H3 ⟨j, ew, hj⟩ e3 d3 => ⟨i, j, ev, ew, q _ H3 ⟨_, rfl, hc i j hi hj⟩ (wx_trans e2 e3) d3⟩
theorem ez_cmp {g : Int → Int → Bool} (ha : EvD1 ta σ p H (ZP PI)) (hb : EvD1 tb σ p H (ZP RI)) : EvD1 (tOp (rI0 fun i j => .bl (g i j)) ta tb) σ p H (fun v => ∃ b, v = .bl b) := fun H1 e d Q q =>
  ha H1 e d _ fun v H2 ⟨i, ev, hi⟩ e2 d2 => hb H2 (wx_trans e e2) d2 _ fun w H3 ⟨j, ew, hj⟩ e3 d3 => ⟨i, j, ev, ew, q _ H3 ⟨_, rfl⟩ (wx_trans e2 e3) d3⟩
theorem ez_eq (ha : EvD1 ta σ p H (ZP PI)) (hb : EvD1 tb σ p H (ZP RI)) : EvD1 (tOp rEq ta tb) σ p H (fun v => ∃ b, v = .bl b) := fun H1 e d Q q =>
  ha H1 e d _ fun v H2 ⟨i, ev, hi⟩ e2 d2 => hb H2 (wx_trans e e2) d2 _ fun w H3 ⟨j, ew, hj⟩ e3 d3 => by
    subst ev ew
    exact ⟨rfl, q _ H3 ⟨_, rfl⟩ (wx_trans e2 e3) d3⟩
theorem ez_int (h : EvD1 ta σ p H (ZP PI)) : EvD1 (tCB (fun xs H Q => (∃ i, xs = [.int i] ∧ Q (.int i) H) ∨ ∃ k, xs = [.bl k] ∧ Q (.int (if k then 1 else 0)) H) (tCons ta tNil)) σ p H (ZP PI) :=
  fun H1 e d Q q => h H1 e d _ fun v H2 ⟨i, ev, hi⟩ e2 d2 => .inl ⟨i, by rw [ev], q _ H2 ⟨i, rfl, hi⟩ e2 d2⟩
/-- _law_digit(state, m) -/
theorem ez_digit {m : Int} (ha : Ev ta σ (wo p H) (.ref p)) (hb : Ev tb σ (wo p H) (.int m)) (h0 : 0 < m) (h1 : m < 2 ^ 400) : EvD1 (tCall (sp__law_digit K) [] E (tCons ta (tCons tb tNil))) σ p H (ZP fun d => 0 ≤ d ∧ d < m) := fun H1 e d Q q =>
  ha H1 e _ fun H2 e2 => hb H2 (e.trans e2) _ fun H3 e3 => ⟨p, m, rfl, d.ex (e2.trans e3), h0, h1, fun d H4 a b e4 d4 => q _ H4 ⟨d, rfl, a, b⟩ (wx_trans (wx_of (e2.trans e3)) e4) d4⟩
theorem edt_test (h : EvD1 te σ p H (fun v => ∃ b, v = .bl b)) : EvDT (tTest te) σ p H (fun _ => True) := fun H1 e d Q q => h H1 e d _ fun v H2 ⟨b, ev⟩ e2 d2 => ⟨b, ev, q b H2 trivial e2 d2⟩
theorem q1_asg {i : Nat} (h : EvD1 te σ p H P) (d : Dr p H) (k : ∀ v H1, P v → Ex (wo p H) H1 → Dr p H1 → tz D (σ.set i (some v)) H1) : tSeq (tAsg te (gName i)) tz D σ H := h H (wo_le p H) d _ fun v H1 hv e1 d1 => k v H1 hv e1 d1
theorem qz_asg {i : Nat} (h : EvD1 te σ p H (ZP PI)) (d : Dr p H) (k : ∀ (n : Int) H1, PI n → Ex (wo p H) H1 → Dr p H1 → tz D (σ.set i (some (.int n))) H1) : tSeq (tAsg te (gName i)) tz D σ H := q1_asg h d fun v H1 ⟨n, ev, hn⟩ e1 d1 => by
  subst ev
  exact k n H1 hn e1 d1
theorem s1_ret (h : EvD1 te σ p H P) (d : Dr p H) (k : ∀ v H1, P v → Ex (wo p H) H1 → Dr p H1 → D.rt v H1) : tRet te D σ H := h H (wo_le p H) d _ fun v H1 hv e1 d1 => k v H1 hv e1 d1
theorem q1_when (h : EvDT t σ p H (fun _ => True)) (d : Dr p H) (h1 : ∀ H1, Ex (wo p H) H1 → Dr p H1 → tu { D with nx := tz D } σ H1) (h2 : ∀ H1, Ex (wo p H) H1 → Dr p H1 → tz D σ H1) : tSeq (tIfS t tu tNext) tz D σ H := h H (wo_le p H) d _ fun b H1 _ e1 d1 => by
  cases b with
  | true =>
    show tu { D with nx := tz D } σ H1
    exact h1 H1 e1 d1
  | false =>
    show tz D σ H1
    exact h2 H1 e1 d1
/-- _law_cell(script, i), _law_state(cell, k) -/
theorem ec_cell {a : Addr} {ns : List Int} {k : Int} (ha : Ev ta σ H (.ref a)) (hb : Ev tb σ H (.int k)) (hS : SqL K H a (ns.map V.int)) (h0 : 0 ≤ k) : Ev (tCall (sp__law_cell K) [] E (tCons ta (tCons tb tNil))) σ H (.int (ns.getD k.toNat 0)) :=
  ev_call (ea_cons ha (ea_cons hb ea_nil)) fun H1 e Q q E => ⟨a, ns, k, rfl, ex_l e hS, h0, q⟩
theorem ec_state {c k : Int} (ha : Ev ta σ H (.int c)) (hb : Ev tb σ H (.int k)) : EvC (tCall (sp__law_state K) [] E (tCons ta (tCons tb tNil))) σ H := fun H1 e Q q =>
  ha H1 e _ fun H2 e2 => hb H2 (e.trans e2) _ fun H3 e3 => ⟨c, k, rfl, fun p H4 hp e4 d => q p H4 (fresh_back (e2.trans e3) hp) ((e2.trans e3).trans e4) d⟩
theorem q_asgC {i : Nat} (h : EvC te σ H) (k : ∀ p H1, H p = none → Ex H H1 → Dr p H1 → tz D (σ.set i (some (.ref p))) H1) : tSeq (tAsg te (gName i)) tz D σ H := h H (Ex.refl H) _ fun p H1 hp e d => k p H1 hp e d
theorem EvN.mono (e : Ex H H') (h : EvN te σ H P) : EvN te σ H' P := fun H1 a Q q => h H1 (e.trans a) Q q
theorem q_asgN {i : Nat} (h : EvN te σ H P) (k : ∀ v H1, P v → Ex H H1 → tz D (σ.set i (some v)) H1) : tSeq (tAsg te (gName i)) tz D σ H := h H (Ex.refl H) _ fun v H1 hv e => k v H1 hv e
theorem s_appN {l : Addr} {xs : List V} (hl : H l = some (.lst xs)) (ha : Ev ta σ H (.ref l)) (h : EvN te σ H P) (hz : xs.length < 100000) (k : ∀ v H1, P v → Ex H H1 → D.nx σ (upd H1 l (.lst (xs ++ [v])))) :
    tDrop (tBM K "list" rAppend ta (tCons te tNil)) D σ H := ha H (Ex.refl H) _ fun H1 e1 =>
  ⟨Or.inl ⟨rfl, xs, sq_of (e1 l _ hl)⟩, h H1 e1 _ fun v H2 hv e2 => ⟨l, xs, v, rfl, rfl, e2 l _ (e1 l _ hl), sz_lt hz, k v H2 hv (e1.trans e2)⟩⟩
end
section
variable {P : Program} {w : World} {K : PySem.W.Frag} {mg : Str → Option Value} {base : Heap}
theorem ok__law_cell (D : Dn K mg "_law_cell" s__law_cell ["script", "k"]) (z_len : mg "len" = none) :
    C8.Cal P w K mg base 1 "_law_cell" (sp__law_cell K) [] := by
  refine cal_of D sc__law_cell (fun vs H Q E h => ?_) (fun f cdv A outer s H vs Q E hr h => ?_)
  · obtain ⟨_, _, _, rfl, _⟩ := h
    rfl
  refine ⟨_, (pss_cons (ps_if (pt_cmpR op_lt (pv 1) (pe_callB call_len_seq (by rfl) z_len PySem.boot_len (pa_cons (pv 0) pa_nil)) (nomark _))
      (pss_one (ps_ret (pe_ix ix_list (pv 0) (pv 1) (fun _ _ => rfl))))
      pss_nil)
    (pss_one (ps_ret pe_int))), ?_⟩
  obtain ⟨a, ns, k, rfl, hS, h0, q⟩ := h
  refine q_when (b := decide (k < (((ns.map V.int).length : Nat) : Int))) (et_test (ev_op (ev_var rfl) (ev_len (ev_var rfl) hS) rv_I0)) (fun hb H1 e1 => ?_) fun hb H1 e1 => ?_
  · have hk : k.toNat < ns.length := by
      have := of_decide_eq_true hb
      rw [List.length_map] at this
      omega
    refine s_ret (v := .int (ns.getD k.toNat 0)) (ev_op (ev_var rfl) (ev_var rfl) (rv_ixL (ex_l e1 hS) ?_)) fun H2 e2 => q _ (e1.trans e2)
    obtain ⟨j, rfl⟩ := Int.eq_ofNat_of_zero_le h0
    rw [Int.toNat_natCast] at hk ⊢
    exact atI_nat (by rw [List.getElem?_map, List.getElem?_eq_getElem hk, List.getD_eq_getElem?_getD, List.getElem?_eq_getElem hk]; rfl)
  · have hk : ns.length ≤ k.toNat := by
      have := of_decide_eq_false hb
      rw [List.length_map] at this
      omega
    refine s_ret (v := .int (ns.getD k.toNat 0)) (ev_is ev_c ?_) fun H2 e2 => q _ (e1.trans e2)
    rw [List.getD_eq_getElem?_getD, List.getElem?_eq_none hk]
    rfl
theorem ok__law_state (D : Dn K mg "_law_state" s__law_state ["cell", "k"]) (z_int : mg "int" = none) :
    C8.Cal P w K mg base 1 "_law_state" (sp__law_state K) [] := by
  refine cal_of D sc__law_state (fun vs H Q E h => ?_) (fun f cdv A outer s H vs Q E hr h => ?_)
  · obtain ⟨_, _, rfl, _⟩ := h
    rfl
  refine ⟨_, (pss_cons (ps_if (pt_cmpR op_ge (pv 0) pe_int (nomark _))
      (pss_one (ps_ret (pe_lst (pa_cons (pv 0) pa_nil))))
      pss_nil)
    (pss_cons (ps_set (i := 2) sc__law_state.nd rfl (.inl rfl) pe_int)
    (pss_cons (ps_set (i := 3) sc__law_state.nd rfl (.inl rfl) (pe_op op_mod (pe_callTy call_int1 (by rfl) z_int (by decide +kernel) (pa_cons (pe_op op_add (pe_op op_add (pe_op op_mul (pv 0) pe_int) (pe_op op_mul (pe_op op_add (pv 1) pe_int) pe_int)) pe_int) pa_nil)) (pv 2)))
    (pss_cons (ps_set (i := 4) sc__law_state.nd rfl (.inl rfl) (pe_op op_mod (pe_callTy call_int1 (by rfl) z_int (by decide +kernel) (pa_cons (pe_op op_add (pe_op op_add (pe_op op_mulX (pv 3) (pv 3)) (pe_op op_mul pe_int (pv 3))) (pv 1)) pa_nil)) (pv 2)))
    (pss_cons (ps_set (i := 5) sc__law_state.nd rfl (.inl rfl) (pe_op op_mod (pe_callTy call_int1 (by rfl) z_int (by decide +kernel) (pa_cons (pe_op op_add (pe_op op_add (pe_op op_mul (pv 4) pe_int) (pe_op op_mul (pv 3) pe_int)) pe_int) pa_nil)) (pv 2)))
    (pss_cons (ps_set (i := 6) sc__law_state.nd rfl (.inl rfl) (pe_op op_mod (pe_callTy call_int1 (by rfl) z_int (by decide +kernel) (pa_cons (pe_op op_add (pe_op op_mulX (pv 5) (pv 5)) (pv 4)) pa_nil)) (pv 2)))
    (pss_one (ps_ret (pe_lst (pa_cons (pe_op op_add (pe_op op_mul (pe_op op_add (pe_op op_mul (pe_op op_add (pe_op op_mul (pv 6) (pv 2)) (pv 5)) (pv 2)) (pv 4)) (pv 2)) (pv 3)) pa_nil)))))))))), ?_⟩
  obtain ⟨c, k, rfl, q⟩ := h
  refine q_when (b := decide (c ≥ 1000000000000000000)) (et_test (ev_op (ev_var rfl) ev_c rv_I0)) (fun hb H1 e1 => ?_) fun hb H1 e1 => ?_
  · exact s_retL (el_lst (ea_cons (ev_var rfl) ea_nil) (by show 1 ≤ 100000; decide)) fun p H2 hp e2 h2 => q p H2 (fresh_back e1 hp) (e1.trans e2) ⟨c, by have := of_decide_eq_true hb; omega, h2⟩
  refine q_asg (v := .int 2305843009213693951) ev_c fun H2 e2 => ?_
  have mp : ∀ n : Int, 0 ≤ n % 2305843009213693951 ∧ n % 2305843009213693951 < 2305843009213693951 := fun n => by omega
  have mb : ∀ i j : Int, 0 ≤ i ∧ i < 2305843009213693951 → 0 ≤ j ∧ j < 2305843009213693951 → CMulX i j := fun i j hi hj => mulx_ok (a := 61) (b := 61) (by omega) (by omega) (by decide)
  refine q_asg (v := .int ((c * 6364136223 + (k + 1) * 104729 + 77) % 2305843009213693951)) ?_ fun H3 e3 => ?_
  · exact ev_op (ev_int (ev_op (ev_op (ev_op (ev_var rfl) ev_c (rv_I (.inr ⟨by decide, by decide⟩))) (ev_op (ev_op (ev_var rfl) ev_c rv_I0) ev_c (rv_I (.inr ⟨by decide, by decide⟩))) rv_I0) ev_c rv_I0)) (ev_var rfl) (rv_I (by decide))
  have h1 := mp (c * 6364136223 + (k + 1) * 104729 + 77)
  generalize (c * 6364136223 + (k + 1) * 104729 + 77) % 2305843009213693951 = f1 at *
  refine q_asg (v := .int ((f1 * f1 + 1013 * f1 + k) % 2305843009213693951)) ?_ fun H4 e4 => ?_
  · exact ev_op (ev_int (ev_op (ev_op (ev_op (ev_var rfl) (ev_var rfl) (rv_I (mb _ _ h1 h1))) (ev_op ev_c (ev_var rfl) (rv_I (.inl ⟨by decide, by decide⟩))) rv_I0) (ev_var rfl) rv_I0)) (ev_var rfl) (rv_I (by decide))
  have h2 := mp (f1 * f1 + 1013 * f1 + k)
  generalize (f1 * f1 + 1013 * f1 + k) % 2305843009213693951 = f2 at *
  refine q_asg (v := .int ((f2 * 48271 + f1 * 31 + 9) % 2305843009213693951)) ?_ fun H5 e5 => ?_
  · exact ev_op (ev_int (ev_op (ev_op (ev_op (ev_var rfl) ev_c (rv_I (.inr ⟨by decide, by decide⟩))) (ev_op (ev_var rfl) ev_c (rv_I (.inr ⟨by decide, by decide⟩))) rv_I0) ev_c rv_I0)) (ev_var rfl) (rv_I (by decide))
  have h3 := mp (f2 * 48271 + f1 * 31 + 9)
  generalize (f2 * 48271 + f1 * 31 + 9) % 2305843009213693951 = f3 at *
  refine q_asg (v := .int ((f3 * f3 + f2) % 2305843009213693951)) ?_ fun H6 e6 => ?_
  · exact ev_op (ev_int (ev_op (ev_op (ev_var rfl) (ev_var rfl) (rv_I (mb _ _ h3 h3))) (ev_var rfl) rv_I0)) (ev_var rfl) (rv_I (by decide))
  have h4 := mp (f3 * f3 + f2)
  generalize (f3 * f3 + f2) % 2305843009213693951 = f4 at *
  refine s_retL (xs := [.int (((f4 * 2305843009213693951 + f3) * 2305843009213693951 + f2) * 2305843009213693951 + f1)]) (el_lst (ea_cons ?_ ea_nil) (by show 1 ≤ 100000; decide)) fun p H7 hp e7 h7 => ?_
  · exact ev_op (ev_op (ev_op (ev_op (ev_op (ev_op (ev_var rfl) (ev_var rfl) (rv_I (.inr ⟨by decide, by decide⟩))) (ev_var rfl) rv_I0) (ev_var rfl) (rv_I (.inr ⟨by decide, by decide⟩))) (ev_var rfl) rv_I0) (ev_var rfl) (rv_I (.inr ⟨by decide, by decide⟩))) (ev_var rfl) rv_I0
  have x6 := ((((e1.trans e2).trans e3).trans e4).trans e5).trans e6
  exact q p H7 (fresh_back x6 hp) (x6.trans e7) ⟨_, by omega, h7⟩
theorem ok__law_digit (D : Dn K mg "_law_digit" s__law_digit ["state", "many"]) (z_int : mg "int" = none) :
    C8.Cal P w K mg base 1 "_law_digit" (sp__law_digit K) [] := by
  refine cal_of D sc__law_digit (fun vs H Q E h => ?_) (fun f cdv A outer s H vs Q E hr h => ?_)
  · obtain ⟨_, _, rfl, _⟩ := h
    rfl
  refine ⟨_, (pss_cons (ps_set (i := 2) sc__law_digit.nd rfl (.inl rfl) (pe_op op_mod (pe_callTy call_int1 (by rfl) z_int (by decide +kernel) (pa_cons (pe_ix ix_list (pv 0) pe_int (fun _ _ => rfl)) pa_nil)) (pv 1)))
    (pss_cons (ps_asg (pe_op op_fdivW (pe_ix ix_list (pv 0) pe_int (fun _ _ => rfl)) (pv 1)) (pg_sub (pv 0) pe_int set_list))
    (pss_one (ps_ret (pv 2))))), ?_⟩
  obtain ⟨p, m, rfl, ⟨s, s0, hp⟩, m0, m1, q⟩ := h
  refine q_asg (v := .int (s % m)) (ev_op (ev_int (ev_op (ev_var rfl) ev_c (rv_ixL (sq_of hp) rfl))) (ev_var rfl) (rv_I m0)) fun H1 e1 => ?_
  refine q_setL (v := .int (s / m)) (j := 0) (e1 _ _ hp) (ev_op (ev_op (ev_var rfl) ev_c (rv_ixL (sq_of (e1 _ _ hp)) rfl)) (ev_var rfl) (rv_I (wide_div (b := 400) m0 (by omega) (by decide) (by decide)))) (ev_var rfl) ev_c (by show 0 < 1; decide) fun H2 e2 => ?_
  exact s_ret (ev_var rfl) fun H3 e3 => q (s % m) H3 (Int.emod_nonneg _ (by omega)) (Int.emod_lt_of_pos _ m0) ((Ex.mut ((wo_le p H).trans (e1.trans e2)) (wo_self p H)).trans e3) ⟨s / m, Int.ediv_nonneg s0 (by omega), e3 _ _ upd_same⟩
end
section
variable {K : PySem.W.Frag} {σ : L2.St} {H : Hp} {p : Addr} {ta tb te : TE} {P : V → Prop} {D : Ends} {tz : TS}
/-- xs[i] = what is drawn -/
theorem q1_setL {l : Addr} {xs : List V} {j : Nat} (hl : wo p H l = some (.lst xs)) (h : EvD1 te σ p H P) (d : Dr p H) (ho : Ev ta σ (wo p H) (.ref l)) (hi : Ev tb σ (wo p H) (.int (j : Int))) (hj : j < xs.length) (k : ∀ v H1, P v → Ex (wo p H) H1 → Dr p H1 → tz D σ (upd H1 l (.lst (xs.set j v)))) :
    tSeq (tAsg te (gSub ta tb rSetL)) tz D σ H := h H (wo_le p H) d _ fun v H1 hv e1 d1 => ho H1 e1 _ fun H2 e2 => hi H2 (e1.trans e2) _ fun H3 e3 =>
  ⟨l, xs, (j : Int), j, rfl, rfl, ((e1.trans e2).trans e3) l _ hl, ixN_nat hj, k v H3 hv ((e1.trans e2).trans e3) (d1.ex (e2.trans e3))⟩
/-- a digit of a list that is new -/
theorem en_digit {m : Int} {E : XK} (ha : EvC ta σ H) (hb : Ev tb σ H (.int m)) (h0 : 0 < m) (h1 : m < 2 ^ 400) : EvN (tCall (sp__law_digit K) [] E (tCons ta (tCons tb tNil))) σ H (ZP fun d => 0 ≤ d ∧ d < m) := fun H1 e Q q =>
  ha H1 e _ fun p H2 hp e2 d2 => hb H2 (e.trans e2) _ fun H3 e3 => ⟨p, m, rfl, d2.ex e3, h0, h1, fun d H4 a b e4 _ => q _ H4 ⟨d, rfl, a, b⟩ (wx_back hp (e2.trans e3) e4)⟩
end

/-! ### lists compared, cut; list as a type -/
theorem cut_take {xs : List V} {m : Nat} (h : m ≤ xs.length) : cutV xs none (some (m : Int)) = xs.take m := by
  unfold cutV
  rw [HT.sIx_none, HT.sIx_nat, List.drop_zero, Nat.sub_zero, Nat.min_eq_left h]
theorem eqv_intsL : ∀ ns ms : List Int, PyData.eqv (.list (ns.map PyData.int)) (.list (ms.map PyData.int)) = decide (ns = ms)
  | [], [] => rfl
  | [], _ :: _ => rfl
  | _ :: _, [] => rfl
  | n :: r, m :: t => by
    have ih := eqv_intsL r t
    show ((n == m) && PyData.eqv (.list (r.map PyData.int)) (.list (t.map PyData.int))) = _
    rw [ih, Bool.eq_iff_iff, Bool.and_eq_true, decide_eq_true_eq, decide_eq_true_eq, beq_iff_eq, List.cons.injEq]
theorem rv_neL {K : PySem.W.Frag} {H : Hp} {p q : Addr} {ns ms : List Int} (hp : SqL K H p (ns.map V.int)) (hq : SqL K H q (ms.map V.int)) : RV (rNeD K) (.ref p) (.ref q) H (.bl (!decide (ns = ms))) := fun H1 e Q k =>
  ⟨_, _, .lst (ex_l e hp) (dp_ints ns), .lst (ex_l e hq) (dp_ints ms), PySem.W.ke_shaped_ints _, PySem.W.ke_shaped_ints _, by rw [eqv_intsL]; exact k H1 (Ex.refl H1)⟩
theorem tx_lst {K : PySem.W.Frag} {H : Hp} {a : Addr} {xs : List V} (h : H a = some (.lst xs)) : ∀ H1, Ex H H1 → TyX K H1 (.ref a) (.type "list") := fun H1 e => .base (.lst (e _ _ h))
theorem given_all (n : Nat) (v : Nat → V) : given n (fun _ => true) v = (List.range n).map v := by
  unfold given
  rw [List.filter_eq_self.mpr (fun _ _ => rfl)]
theorem foldl_take {α β : Type} {f : β → α → β} {l : List α} {i : Nat} {x : α} {b : β} (h : l[i]? = some x) : (l.take (i + 1)).foldl f b = f ((l.take i).foldl f b) x := by
  rw [List.take_add_one, h, List.foldl_append]
  rfl

def sp__law_is_integer (K : PySem.W.Frag) : Sp := fun vs H Q _ => ∃ x : V, vs = [x] ∧ Pl x ∧ ∀ H', Ex H H' → Q (.bl (isInt x)) H'
section
variable {P : Program} {w : World} {K : PySem.W.Frag} {mg : Str → Option Value} {base : Heap}
theorem ok__law_is_integer (D : Dn K mg "_law_is_integer" s__law_is_integer ["told"]) (z_bool : mg "bool" = none) (z_int : mg "int" = none) (z_isinstance : mg "isinstance" = none) :
    C8.Cal P w K mg base 1 "_law_is_integer" (sp__law_is_integer K) [] := by
  refine cal_of D sc__law_is_integer (fun vs H Q E h => ?_) (fun f cdv A outer s H vs Q E hr h => ?_)
  · obtain ⟨_, rfl, _⟩ := h
    rfl
  refine ⟨_, (pss_one (ps_ret (pe_and (pe_callB call_isi (by rfl) z_isinstance (by decide +kernel) (pa_cons (pv 0) (pa_cons (pe_bltn (v := .ty "int") (u := .type "int") rfl z_int (by decide +kernel) rfl) pa_nil))) (pe_one (pe_not (pe_callB call_isi (by rfl) z_isinstance (by decide +kernel) (pa_cons (pv 0) (pa_cons (pe_bltn (v := .ty "bool") (u := .type "bool") rfl z_bool (by decide +kernel) rfl) pa_nil)))))))), ?_⟩
  obtain ⟨x, rfl, hx, q⟩ := h
  exact s_ret (ev_isInt (ev_var rfl) (ev_var rfl) hx) fun H2 e2 => q _ e2
section
variable {σ : L2.St} {H : Hp} {ta : TE} {E : XK}
theorem ec_isx {x : V} (hx : Pl x) (ha : Ev ta σ H x) : Ev (tCall (sp__law_is_integer K) [] E (tCons ta tNil)) σ H (.bl (isInt x)) := ev_call (ea_cons ha ea_nil) fun H1 e Q q E => ⟨x, rfl, hx, q⟩
theorem ec_isint {n : Int} (ha : Ev ta σ H (.int n)) : Ev (tCall (sp__law_is_integer K) [] E (tCons ta tNil)) σ H (.bl true) := ec_isx (.int n) ha
end
end

/-! ### the checksum: its mathematics, over naturals -/
theorem x_mod2 (a b : Nat) : (a ^^^ b) % 2 = (a + b) % 2 := by
  have h := @Nat.xor_mod_two_eq_one a b
  omega
theorem x_cancel {a b : Nat} (h : a ^^^ b = 0) : a = b := by
  have e : (a ^^^ b) ^^^ b = b := by rw [h, Nat.zero_xor]
  rw [Nat.xor_assoc, Nat.xor_self, Nat.xor_zero] at e
  exact e
theorem x_left {n a b : Nat} (h : n ^^^ a = n ^^^ b) : a = b := by
  apply x_cancel
  have e : (n ^^^ a) ^^^ (n ^^^ b) = a ^^^ b := by
    rw [Nat.xor_assoc, ← Nat.xor_assoc a n b, Nat.xor_comm a n, Nat.xor_assoc n a b, ← Nat.xor_assoc n n, Nat.xor_self, Nat.zero_xor]
  rw [← e, h, Nat.xor_self]
theorem x_right {n a b : Nat} (h : a ^^^ n = b ^^^ n) : a = b := x_left (n := n) (by rw [Nat.xor_comm n a, Nat.xor_comm n b, h])
theorem x_split (x k : Nat) : x = 2 ^ k * (x / 2 ^ k) ^^^ x % 2 ^ k := by
  apply Nat.eq_of_testBit_eq
  intro i
  rw [Nat.testBit_xor, Nat.testBit_two_pow_mul, Nat.testBit_div_two_pow, Nat.testBit_mod_two_pow]
  by_cases h : i < k
  · rw [decide_eq_true h, decide_eq_false (show ¬ i ≥ k by omega), Bool.false_and, Bool.true_and, Bool.false_xor]
  · rw [decide_eq_false h, decide_eq_true (show i ≥ k by omega), Bool.true_and, Bool.false_and, Bool.xor_false, Nat.sub_add_cancel (by omega)]
def cS (n : Nat) : Nat := n / 2 ^^^ (if n % 2 = 1 then 3988292384 else 0)
def cI : Nat → Nat → Nat
  | 0, n => n
  | k + 1, n => cS (cI k n)
def stp (n o : Nat) : Nat := n / 256 ^^^ cI 8 ((n ^^^ o) % 256)
def crc (os : List Nat) : Nat := os.foldl stp 4294967295 ^^^ 4294967295
theorem cS_x (a b : Nat) : cS (a ^^^ b) = cS a ^^^ cS b := by
  unfold cS
  have h := x_mod2 a b
  rw [Nat.xor_div_two]
  generalize a / 2 = p
  generalize b / 2 = q
  have hx : ∀ u v w : Nat, u ^^^ v ^^^ w = (u ^^^ w) ^^^ v := fun u v w => by rw [Nat.xor_assoc, Nat.xor_comm v w, ← Nat.xor_assoc]
  rcases Nat.mod_two_eq_zero_or_one a with ha | ha <;> rcases Nat.mod_two_eq_zero_or_one b with hb | hb
  · rw [if_neg (by omega), if_neg (by omega), if_neg (by omega), Nat.xor_zero, Nat.xor_zero, Nat.xor_zero]
  · rw [if_pos (by omega), if_neg (by omega), if_pos (by omega), Nat.xor_zero, Nat.xor_assoc]
  · rw [if_pos (by omega), if_pos (by omega), if_neg (by omega), Nat.xor_zero, hx]
  · rw [if_neg (by omega), if_pos (by omega), if_pos (by omega), Nat.xor_zero, ← Nat.xor_assoc, hx p 3988292384 q, Nat.xor_assoc (p ^^^ q), Nat.xor_self, Nat.xor_zero]
theorem cS_dbl (m : Nat) : cS (2 * m) = m := by
  unfold cS
  rw [if_neg (by omega), Nat.xor_zero]
  omega
theorem cI_x (k a b : Nat) : cI k (a ^^^ b) = cI k a ^^^ cI k b := by
  induction k with
  | zero => rfl
  | succ k ih =>
    show cS (cI k (a ^^^ b)) = cS (cI k a) ^^^ cS (cI k b)
    rw [ih, cS_x]
theorem cI_high (k : Nat) : ∀ m, cI k (2 ^ k * m) = m := by
  induction k with
  | zero => intro m; show 2 ^ 0 * m = m; rw [Nat.pow_zero, Nat.one_mul]
  | succ k ih =>
    intro m
    show cS (cI k (2 ^ (k + 1) * m)) = m
    rw [Nat.pow_succ, Nat.mul_assoc, ih, cS_dbl]
theorem stp_eq {n o : Nat} (ho : o < 256) : stp n o = cI 8 (n ^^^ o) := by
  have e : (n ^^^ o) / 2 ^ 8 = n / 256 := by
    rw [Nat.xor_div_two_pow, Nat.div_eq_of_lt (a := o) (b := 2 ^ 8) ho, Nat.xor_zero]
  have s := x_split (n ^^^ o) 8
  have c := cI_x 8 (2 ^ 8 * ((n ^^^ o) / 2 ^ 8)) ((n ^^^ o) % 2 ^ 8)
  rw [← s, cI_high, e] at c
  exact c.symm
theorem cS_lt {n : Nat} (h : n < 2 ^ 32) : cS n < 2 ^ 32 := by
  unfold cS
  refine Nat.xor_lt_two_pow (by omega) ?_
  split <;> decide
theorem cI_lt {n : Nat} (k : Nat) (h : n < 2 ^ 32) : cI k n < 2 ^ 32 := by
  induction k with
  | zero => exact h
  | succ k ih => exact cS_lt ih
theorem cS_zero {n : Nat} (h : n < 2 ^ 32) (z : cS n = 0) : n = 0 := by
  unfold cS at z
  have e := x_cancel z
  split at e <;> omega
theorem cI_zero {n : Nat} (k : Nat) (h : n < 2 ^ 32) (z : cI k n = 0) : n = 0 := by
  induction k with
  | zero => exact z
  | succ k ih => exact ih (cS_zero (cI_lt k h) z)
theorem cI_inj {a b : Nat} (k : Nat) (ha : a < 2 ^ 32) (hb : b < 2 ^ 32) (h : cI k a = cI k b) : a = b :=
  x_cancel (cI_zero k (Nat.xor_lt_two_pow ha hb) (by rw [cI_x, h, Nat.xor_self]))
theorem xo_lt {n o : Nat} (h : n < 2 ^ 32) (ho : o < 256) : n ^^^ o < 2 ^ 32 := Nat.xor_lt_two_pow h (by omega)
theorem stp_lt {n o : Nat} (h : n < 2 ^ 32) (ho : o < 256) : stp n o < 2 ^ 32 := by
  rw [stp_eq ho]
  exact cI_lt 8 (xo_lt h ho)
theorem stp_inj {n m o p : Nat} (hn : n < 2 ^ 32) (hm : m < 2 ^ 32) (ho : o < 256) (hp : p < 256) (h : stp n o = stp m p) : n ^^^ o = m ^^^ p := by
  rw [stp_eq ho, stp_eq hp] at h
  exact cI_inj 8 (xo_lt hn ho) (xo_lt hm hp) h
def Oct (os : List Nat) : Prop := ∀ o ∈ os, o < 256
theorem fold_lt : ∀ (os : List Nat) (n : Nat), Oct os → n < 2 ^ 32 → os.foldl stp n < 2 ^ 32
  | [], _, _, h => h
  | o :: r, n, ho, h => fold_lt r (stp n o) (fun x hx => ho x (List.mem_cons_of_mem _ hx)) (stp_lt h (ho o List.mem_cons_self))
theorem fold_inj : ∀ (os : List Nat) (n m : Nat), Oct os → n < 2 ^ 32 → m < 2 ^ 32 → os.foldl stp n = os.foldl stp m → n = m
  | [], _, _, _, _, _, h => h
  | o :: r, n, m, ho, hn, hm, h => by
    have h0 := ho o List.mem_cons_self
    have e := fold_inj r (stp n o) (stp m o) (fun x hx => ho x (List.mem_cons_of_mem _ hx)) (stp_lt hn h0) (stp_lt hm h0) h
    exact x_right (stp_inj hn hm h0 h0 e)
theorem crc_fold {os ps : List Nat} (h : crc os = crc ps) : os.foldl stp 4294967295 = ps.foldl stp 4294967295 := x_right h
/-- one octet changed -/
theorem crc_one {l r : List Nat} {a b : Nat} (hl : Oct l) (hr : Oct r) (ha : a < 256) (hb : b < 256) (h : crc (l ++ a :: r) = crc (l ++ b :: r)) : a = b := by
  have e := crc_fold h
  rw [List.foldl_append, List.foldl_append, List.foldl_cons, List.foldl_cons] at e
  have hn := fold_lt l 4294967295 hl (by decide)
  exact x_left (stp_inj hn hn ha hb (fold_inj r _ _ hr (stp_lt hn ha) (stp_lt hn hb) e))
theorem tab_ne : ∀ c : Nat, c < 256 → cI 8 c = c → c = 0 := by decide +kernel
/-- two neighbours exchanged -/
theorem crc_two {l r : List Nat} {a b : Nat} (hl : Oct l) (hr : Oct r) (ha : a < 256) (hb : b < 256) (h : crc (l ++ a :: b :: r) = crc (l ++ b :: a :: r)) : a = b := by
  have e := crc_fold h
  rw [List.foldl_append, List.foldl_append, List.foldl_cons, List.foldl_cons, List.foldl_cons, List.foldl_cons] at e
  have hn := fold_lt l 4294967295 hl (by decide)
  generalize l.foldl stp 4294967295 = n at *
  have e2 := stp_inj (stp_lt hn ha) (stp_lt hn hb) hb ha (fold_inj r _ _ hr (stp_lt (stp_lt hn ha) hb) (stp_lt (stp_lt hn hb) ha) e)
  rw [stp_eq ha, stp_eq hb, cI_x, cI_x, Nat.xor_assoc, Nat.xor_assoc] at e2
  have e3 := x_left e2
  have e4 : cI 8 (a ^^^ b) = a ^^^ b := by
    rw [cI_x]
    apply x_cancel
    have e5 : cI 8 a ^^^ cI 8 b ^^^ (a ^^^ b) = (cI 8 a ^^^ b) ^^^ (cI 8 b ^^^ a) := by
      rw [Nat.xor_assoc, Nat.xor_assoc, ← Nat.xor_assoc (cI 8 b) a b, Nat.xor_comm (cI 8 b ^^^ a) b]
    rw [e5, e3, Nat.xor_self]
  exact x_cancel (tab_ne _ (Nat.xor_lt_two_pow (n := 8) ha hb) e4)
/-! the law's: bit by bit, the other way round -/
def tu : Nat → Nat → Nat
  | 0, _ => 0
  | k + 1, r => 2 * tu k r + r / 2 ^ k % 2
theorem tu_lt (k r : Nat) : tu k r < 2 ^ k := by
  induction k with
  | zero => exact Nat.one_pos
  | succ k ih => show 2 * tu k r + r / 2 ^ k % 2 < 2 ^ (k + 1); rw [Nat.pow_succ]; omega
theorem x_dbl (x y p q : Nat) (hp : p < 2) (hq : q < 2) : 2 * x + p ^^^ (2 * y + q) = 2 * (x ^^^ y) + (p + q) % 2 := by
  have h1 := @Nat.xor_div_two (2 * x + p) (2 * y + q)
  have h2 := x_mod2 (2 * x + p) (2 * y + q)
  rw [show (2 * x + p) / 2 = x by omega, show (2 * y + q) / 2 = y by omega] at h1
  generalize 2 * x + p ^^^ (2 * y + q) = A at *
  generalize x ^^^ y = B at *
  omega
theorem tu_x (k a b : Nat) : tu k (a ^^^ b) = tu k a ^^^ tu k b := by
  induction k with
  | zero => show 0 = 0 ^^^ 0; rw [Nat.xor_self]
  | succ k ih =>
    show 2 * tu k (a ^^^ b) + (a ^^^ b) / 2 ^ k % 2 = _ ^^^ _
    show _ = 2 * tu k a + a / 2 ^ k % 2 ^^^ (2 * tu k b + b / 2 ^ k % 2)
    rw [x_dbl _ _ _ _ (by omega) (by omega), ih, Nat.xor_div_two_pow, x_mod2, Nat.add_mod]
theorem tu_dbl (k r : Nat) : tu (k + 1) (2 * r) = tu k r := by
  induction k with
  | zero => show 2 * 0 + 2 * r / 2 ^ 0 % 2 = 0; rw [Nat.pow_zero]; omega
  | succ k ih =>
    show 2 * tu (k + 1) (2 * r) + 2 * r / 2 ^ (k + 1) % 2 = 2 * tu k r + r / 2 ^ k % 2
    rw [ih, Nat.pow_succ, Nat.mul_comm (2 ^ k) 2, Nat.mul_div_mul_left _ _ (by decide)]
theorem tu_mod (m : Nat) : ∀ k r, k ≤ m → tu k (r % 2 ^ m) = tu k r
  | 0, _, _ => rfl
  | k + 1, r, h => by
    show 2 * tu k (r % 2 ^ m) + r % 2 ^ m / 2 ^ k % 2 = 2 * tu k r + r / 2 ^ k % 2
    rw [tu_mod m k r (by omega)]
    have e : 2 ^ m = 2 ^ k * 2 ^ (m - k) := by rw [← Nat.pow_add]; congr 1; omega
    rw [e, Nat.mod_mul_right_div_self, Nat.mod_mod_of_dvd]
    rw [show m - k = (m - k - 1) + 1 by omega, Nat.pow_succ]
    exact Nat.dvd_mul_left _ _
def Lw (r b : Nat) : Nat := if r / 2147483648 ≠ b then (2 * r % 4294967296) ^^^ 79764919 else 2 * r % 4294967296
theorem Lw_lt (r b : Nat) : Lw r b < 2 ^ 32 := by
  unfold Lw
  split
  · exact Nat.xor_lt_two_pow (by omega) (by decide)
  · omega
theorem tu_Lw {r b : Nat} (hr : r < 2 ^ 32) (hb : b < 2) : tu 32 (Lw r b) = cS (tu 32 r ^^^ b) := by
  have h1 : tu 32 (2 * r % 4294967296) = tu 31 r := (tu_mod 32 32 (2 * r) (Nat.le_refl _)).trans (tu_dbl 31 r)
  have h2 : tu 32 79764919 = 3988292384 := by decide +kernel
  have h3 : tu 32 r = 2 * tu 31 r + r / 2 ^ 31 % 2 := rfl
  have h4 : r / 2 ^ 31 = r / 2147483648 := rfl
  have hd : (tu 32 r ^^^ b) / 2 = tu 31 r := by
    rw [Nat.xor_div_two, show b / 2 = 0 by omega, Nat.xor_zero]
    omega
  have hm := x_mod2 (tu 32 r) b
  unfold cS Lw
  rw [hd]
  by_cases hc : r / 2147483648 ≠ b
  · rw [if_pos hc, if_pos (by omega), tu_x, h1, h2]
  · rw [if_neg hc, if_neg (by omega), h1, Nat.xor_zero]
def lB (r o : Nat) : Nat → Nat
  | 0 => r
  | k + 1 => Lw (lB r o k) (o / 2 ^ k % 2)
theorem lB_lt {r o : Nat} (hr : r < 2 ^ 32) : ∀ k, lB r o k < 2 ^ 32
  | 0 => hr
  | _ + 1 => Lw_lt _ _
theorem tu_lB {r o : Nat} (hr : r < 2 ^ 32) : ∀ k, tu 32 (lB r o k) = cI k (tu 32 r ^^^ o % 2 ^ k)
  | 0 => by
    show tu 32 r = tu 32 r ^^^ o % 2 ^ 0
    rw [Nat.pow_zero, Nat.mod_one, Nat.xor_zero]
  | k + 1 => by
    show tu 32 (Lw (lB r o k) (o / 2 ^ k % 2)) = cS (cI k (tu 32 r ^^^ o % 2 ^ (k + 1)))
    rw [tu_Lw (lB_lt hr k) (by omega), tu_lB hr k]
    have s := x_split (o % 2 ^ (k + 1)) k
    rw [Nat.pow_succ, Nat.mod_mul_right_div_self, Nat.mod_mod_of_dvd _ (Nat.dvd_mul_right _ _)] at s
    rw [Nat.pow_succ, s, Nat.xor_comm (2 ^ k * _), ← Nat.xor_assoc, cI_x k (tu 32 r ^^^ o % 2 ^ k), cI_high]
def lO (r o : Nat) : Nat := lB r o 8
theorem lF_eq : ∀ (os : List Nat) (r : Nat), Oct os → r < 2 ^ 32 → tu 32 (os.foldl lO r) = os.foldl stp (tu 32 r) ∧ os.foldl lO r < 2 ^ 32
  | [], _, _, hr => ⟨rfl, hr⟩
  | o :: t, r, ho, hr => by
    have h0 := ho o List.mem_cons_self
    have e : tu 32 (lO r o) = stp (tu 32 r) o := by
      rw [stp_eq h0]
      have := tu_lB (o := o) hr 8
      rw [Nat.mod_eq_of_lt (a := o) (b := 2 ^ 8) h0] at this
      exact this
    have ih := lF_eq t (lO r o) (fun x hx => ho x (List.mem_cons_of_mem _ hx)) (lB_lt hr 8)
    rw [List.foldl_cons, List.foldl_cons, ← e]
    exact ih
theorem x_all {x : Nat} (h : x < 2 ^ 32) : 4294967295 - x = x ^^^ 4294967295 := by
  apply Nat.eq_of_testBit_eq
  intro i
  have e : 4294967295 - x = 2 ^ 32 - (x + 1) := by omega
  rw [e, Nat.testBit_two_pow_sub_succ h, Nat.testBit_xor, show (4294967295 : Nat) = 2 ^ 32 - 1 by decide, Nat.testBit_two_pow_sub_one]
  by_cases hi : i < 32
  · rw [decide_eq_true hi]
    cases x.testBit i <;> rfl
  · have : x.testBit i = false := Nat.testBit_lt_two_pow (Nat.lt_of_lt_of_le h (Nat.pow_le_pow_right (by decide) (by omega)))
    rw [decide_eq_false hi, this]
    rfl
theorem law_crc {os : List Nat} (h : Oct os) : 4294967295 - tu 32 (os.foldl lO 4294967295) = crc os := by
  have e := (lF_eq os 4294967295 h (by decide)).1
  rw [show tu 32 4294967295 = 4294967295 by decide +kernel] at e
  unfold crc
  rw [x_all (tu_lt 32 _), e]
theorem crc_lt {os : List Nat} (h : Oct os) : crc os < 2 ^ 32 := Nat.xor_lt_two_pow (fold_lt os _ h (by decide)) (by decide)
theorem crc_nine : crc [49, 50, 51, 52, 53, 54, 55, 56, 57] = 3421780262 := by decide +kernel
theorem crc_none : crc [] = 0 := by decide +kernel
theorem split1 {os : List Nat} {j : Nat} (h : j < os.length) (v : Nat) : ∃ l a r, os = l ++ a :: r ∧ os.set j v = l ++ v :: r ∧ os[j]? = some a := by
  refine ⟨os.take j, os[j], os.drop (j + 1), ?_, ?_, List.getElem?_eq_getElem h⟩
  · rw [← List.drop_eq_getElem_cons h, List.take_append_drop]
  · rw [List.set_eq_take_append_cons_drop, if_pos h]
theorem split2 : ∀ {os : List Nat} {j a b : Nat}, os[j]? = some a → os[j + 1]? = some b → ∃ l r, os = l ++ a :: b :: r ∧ (os.set (j + 1) a).set j b = l ++ b :: a :: r
  | [], _, _, _, h, _ => by simp at h
  | [x], 0, _, _, _, h => by simp at h
  | x :: y :: t, 0, a, b, h, g => by
    have e1 : x = a := by simpa using h
    have e2 : y = b := by simpa using g
    subst e1 e2
    exact ⟨[], t, rfl, rfl⟩
  | x :: t, j + 1, a, b, h, g => by
    obtain ⟨l, r, e1, e2⟩ := split2 (os := t) (j := j) (a := a) (b := b) (by simpa using h) (by simpa using g)
    refine ⟨x :: l, r, by rw [e1]; rfl, ?_⟩
    show x :: ((t.set (j + 1) a).set j b) = _
    rw [e2]
    rfl

def zs (os : List Nat) : List Int := os.map fun n : Nat => (n : Int)
theorem zs_at {os : List Nat} {i : Nat} {x : V} (h : ((zs os).map V.int)[i]? = some x) : ∃ o, os[i]? = some o ∧ x = .int (o : Int) := by
  unfold zs at h
  rw [List.map_map, List.getElem?_map] at h
  cases e : os[i]? with
  | none => rw [e] at h; cases h
  | some o => rw [e] at h; exact ⟨o, rfl, (Option.some.inj h).symm⟩
theorem zs_of {os : List Nat} {i o : Nat} (h : os[i]? = some o) : ((zs os).map V.int)[i]? = some (.int (o : Int)) := by
  unfold zs
  rw [List.map_map, List.getElem?_map, h]
  rfl
theorem zs_len (os : List Nat) : ((zs os).map V.int).length = os.length := by
  unfold zs
  rw [List.length_map, List.length_map]
theorem zs_set (os : List Nat) (i o : Nat) : ((zs os).map V.int).set i (.int (o : Int)) = (zs (os.set i o)).map V.int := by
  unfold zs
  rw [List.map_map, List.map_map, List.map_set]
  rfl
theorem rv_xor {H : Hp} (a b : Nat) : RV (rI0 fun i j => .int (Builtin.bitXor i j)) (.int (a : Int)) (.int (b : Int)) H (.int ((a ^^^ b : Nat) : Int)) := by
  have e := Bits.bitXor_pp (x := (a : Int)) (y := (b : Int)) (Int.natCast_nonneg _) (Int.natCast_nonneg _)
  rw [Int.toNat_natCast, Int.toNat_natCast] at e
  rw [← e]
  exact rv_I0
def sp__checksum_of_octet (K : PySem.W.Frag) : Sp := fun vs H Q _ => ∃ o : Nat, vs = [.int (o : Int)] ∧ ∀ H', Ex H H' → Q (.int (cI 8 o : Nat)) H'
def sp_checksum (K : PySem.W.Frag) : Sp := fun vs H Q _ => ∃ (a : Addr) (os : List Nat), vs = [.ref a] ∧ SqL K H a ((zs os).map V.int) ∧ Oct os ∧ ∀ H', Ex H H' → Q (.int (crc os : Nat)) H'
def sp__law_turned_bits (K : PySem.W.Frag) : Sp := fun vs H Q _ => ∃ r : Nat, vs = [.int (r : Int)] ∧ ∀ H', Ex H H' → Q (.int (tu 32 r : Nat)) H'
def sp__law_crc (K : PySem.W.Frag) : Sp := fun vs H Q _ => ∃ (a : Addr) (os : List Nat), vs = [.ref a] ∧ SqL K H a ((zs os).map V.int) ∧ Oct os ∧ ∀ H', Ex H H' → Q (.int (crc os : Nat)) H'
def sp_law (K : PySem.W.Frag) : Sp := fun vs H Q _ => ∃ (a : Addr) (ns : List Int), vs = [.ref a] ∧ SqL K H a (ns.map V.int) ∧ ns.length ≤ 63 ∧ ∀ H', Q (.bl true) H'
theorem sp_law_of {K : PySem.W.Frag} {H : Hp} {a : Addr} {ns : List Int} (hl : ns.length ≤ 63) (hS : SqL K H a (ns.map V.int)) : sp_law K [.ref a] H (fun v _ => v = .bl true) fun _ _ _ => False :=
  ⟨a, ns, rfl, hS, hl, fun _ => rfl⟩
section
variable {P : Program} {w : World} {K : PySem.W.Frag} {mg : Str → Option Value} {base : Heap}
theorem ok__checksum_of_octet (D : Dn K mg "_checksum_of_octet" s__checksum_of_octet ["octet"]) (z_range : mg "range" = none) (g__POLYNOMIAL : ∃ u, mg "_POLYNOMIAL" = some u ∧ RelV (.int (3988292384)) u) :
    C8.Cal P w K mg base 1 "_checksum_of_octet" (sp__checksum_of_octet K) [] := by
  refine cal_of D sc__checksum_of_octet (fun vs H Q E h => ?_) (fun f cdv A outer s H vs Q E hr h => ?_)
  · obtain ⟨_, rfl, _⟩ := h
    rfl
  refine ⟨_, (pss_cons (ps_set (i := 1) sc__checksum_of_octet.nd rfl (.inl rfl) (pv 0))
    (pss_cons (ps_for PassesOwn.never rfl (pi_range1 rfl z_range (pa_cons pe_int pa_nil)) (pg_name (i := 2) sc__checksum_of_octet.nd rfl (.inl rfl))
      (pss_one (ps_set (i := 1) sc__checksum_of_octet.nd rfl (.inl rfl) (pe_op op_xor (pe_op op_halfN (pv 1) pe_int) (pe_ifExp (pt_cmpR op_eq (pe_op op_odd (pv 1) pe_int) pe_int (nomark _)) (C8.pe_gc rfl g__POLYNOMIAL) pe_int)))))
    (pss_one (ps_ret (pv 1))))), ?_⟩
  obtain ⟨o, rfl, q⟩ := h
  refine q_asg (ev_var rfl) fun H1 e1 => ?_
  refine q_forR1 (n := 8) (ea_cons ev_c ea_nil) ⟨by decide, by decide⟩ (fun i σ' H' => ∃ kv, σ' = [some (.int (o : Int)), some (.int ((cI i o : Nat) : Int)), kv] ∧ Ex H1 H') (fun H2 e2 => ⟨_, rfl, e2⟩) (fun i σ' H' hi p => ?_) fun σ' H' p => ?_
  · obtain ⟨kv, es, e⟩ := p
    subst es
    refine s_asg (v := .int ((cI (i + 1) o : Nat) : Int)) ?_ fun H4 e4 => ⟨_, rfl, e.trans e4⟩
    show Ev _ _ _ (.int ((cS (cI i o) : Nat) : Int))
    generalize cI i o = n
    have ho : Ev (tOp (fun x y H Q => ∃ n : Nat, x = .int (n : Int) ∧ y = .int 1 ∧ Q (.int ((n % 2 : Nat) : Int)) H) (tVar 1) (tC (.int 1))) [some (.int (o : Int)), some (.int (n : Int)), some (.int (i : Int))] H' (.int ((n % 2 : Nat) : Int)) :=
      ev_op (ev_var rfl) ev_c (fun H3 e3 Q k => ⟨n, rfl, rfl, k H3 (Ex.refl H3)⟩)
    have hh : Ev (tOp (fun x y H Q => ∃ n : Nat, x = .int (n : Int) ∧ y = .int 1 ∧ Q (.int ((n / 2 : Nat) : Int)) H) (tVar 1) (tC (.int 1))) [some (.int (o : Int)), some (.int (n : Int)), some (.int (i : Int))] H' (.int ((n / 2 : Nat) : Int)) :=
      ev_op (ev_var rfl) ev_c (fun H3 e3 Q k => ⟨n, rfl, rfl, k H3 (Ex.refl H3)⟩)
    unfold cS
    refine ev_op hh (ev_if (v := .int ((if n % 2 = 1 then 3988292384 else 0 : Nat) : Int)) (b := decide (V.int ((n % 2 : Nat) : Int) = V.int 1)) (et_test (ev_op ho ev_c (rv_eq rfl))) (fun hb => ?_) (fun hb => ?_)) (rv_xor _ _)
    · have hc : n % 2 = 1 := by
        have := V.int.inj (of_decide_eq_true hb)
        omega
      rw [if_pos hc]
      exact ev_c
    · have hc : ¬ n % 2 = 1 := fun z => of_decide_eq_false hb (by rw [z]; rfl)
      rw [if_neg hc]
      exact ev_c
  · obtain ⟨kv, es, e⟩ := p
    subst es
    exact s_ret (ev_var rfl) fun H3 e3 => q _ ((e1.trans e).trans e3)
theorem ok_checksum (D : Dn K mg "checksum" s_checksum ["octets"]) (c__checksum_of_octet : C8.Cal P w K mg base 1 "_checksum_of_octet" (sp__checksum_of_octet K) []) (z_range : mg "range" = none) (g__ALL_BITS : ∃ u, mg "_ALL_BITS" = some u ∧ RelV (.int (4294967295)) u) :
    C8.Cal P w K mg base 2 "checksum" (sp_checksum K) [] := by
  refine cal_of D sc_checksum (fun vs H Q E h => ?_) (fun f cdv A outer s H vs Q E hr h => ?_)
  · obtain ⟨_, _, rfl, _⟩ := h
    rfl
  refine ⟨_, (pss_cons (ps_setLc (i := 1) (own := [("octet", 3)]) (g := gName 3) (tt := tYes) rfl sc_checksum.nd rfl rfl (sw_true rfl rfl rfl (by decide +kernel)) (pi_range1 rfl z_range (pa_cons pe_int pa_nil)) (blkOk_by (N := n_checksum) (sc := C8.fnScope s_checksum) (by decide +kernel)) (fun _ _ _ _ _ => pg_name (i := 3) sc_checksum.nd rfl (Or.inl rfl)) (fun _ _ _ _ _ => pts_nil) (fun _ _ _ _ _ => (C8.pe_c c__checksum_of_octet hr (by decide) (by rfl) (pa_cons (pv 3) pa_nil))))
    (pss_cons (ps_set (i := 2) sc_checksum.nd rfl (.inl rfl) (C8.pe_gc rfl g__ALL_BITS))
    (pss_cons (ps_for PassesOwn.never rfl (pi_list (pv 0)) (pg_name (i := 3) sc_checksum.nd rfl (.inl rfl))
      (pss_one (ps_set (i := 2) sc_checksum.nd rfl (.inl rfl) (pe_op op_xor (pe_op op_shrN (pv 2) pe_int) (pe_ix ix_list (pv 1) (pe_op op_andM (pe_op op_xor (pv 2) (pv 3)) pe_int) (fun _ _ => rfl))))))
    (pss_one (ps_ret (pe_op op_xor (pv 2) (C8.pe_gc rfl g__ALL_BITS))))))), ?_⟩
  obtain ⟨a, os, rfl, hS, ho, q⟩ := h
  refine q_asgL (xs := (List.range 256).map fun i => .int ((cI 8 i : Nat) : Int)) ?_ fun p H1 hp e1 h1 => ?_
  · rw [← given_all]
    exact el_lcR1 (fun _ => true) _ (ea_cons ev_c ea_nil) ⟨by decide, by decide⟩ (fun _ => rfl) (fun i H3 e3 hi H4 e4 Q k => k H4 (Ex.refl H4)) fun i H3 e3 hi _ => ev_call (ea_cons (ev_var rfl) ea_nil) fun H1 e Q q E => ⟨i, rfl, q⟩
  refine q_asg (v := .int 4294967295) ev_c fun H2 e2 => ?_
  have x2 := e1.trans e2
  refine q_forLn (ev_var rfl) (ex_l x2 hS) (fun i σ' H' => ∃ kv, σ' = [some (.ref a), some (.ref p), some (.int (((os.take i).foldl stp 4294967295 : Nat) : Int)), kv] ∧ Ex H2 H') (fun H3 e3 => ⟨_, rfl, e3⟩) (fun i σ' H' _ pv => ?_) (fun i x σ' H' hx pv => ?_) fun σ' H' pv => ?_
  · obtain ⟨kv, es, e⟩ := pv
    exact ex_l (x2.trans e) hS
  · obtain ⟨kv, es, e⟩ := pv
    subst es
    obtain ⟨o, hi, rfl⟩ := zs_at hx
    refine s_asg (v := .int (((os.take (i + 1)).foldl stp 4294967295 : Nat) : Int)) ?_ fun H4 e4 => ⟨_, rfl, e.trans e4⟩
    rw [foldl_take hi]
    generalize (os.take i).foldl stp 4294967295 = n
    unfold stp
    have hm : (n ^^^ o) % 256 < 256 := Nat.mod_lt _ (by decide)
    refine ev_op (ev_is (v := .int ((n : Int) / 2 ^ 8)) (ev_op (ev_var rfl) ev_c (fun H5 e5 Q k => ⟨_, 8, rfl, rfl, k H5 (Ex.refl H5)⟩)) (by show V.int ((n : Int) / 256) = _; congr 1)) (ev_op (ev_var rfl) (ev_is (v := .int (((n ^^^ o : Nat) : Int) % 2 ^ 8)) (ev_op (ev_op (ev_var rfl) (ev_var rfl) (rv_xor n o)) ev_c (fun H5 e5 Q k => ⟨_, 8, rfl, rfl, k H5 (Ex.refl H5)⟩)) (show _ = V.int (((n ^^^ o) % 256 : Nat) : Int) from rfl)) (rv_ixL (sq_of ((e2.trans e) _ _ h1)) (atI_nat (v := .int ((cI 8 ((n ^^^ o) % 256) : Nat) : Int)) ?_))) (rv_xor _ _)
    rw [List.getElem?_map, List.getElem?_range hm]
    rfl
  · obtain ⟨kv, es, e⟩ := pv
    subst es
    rw [zs_len, List.take_length]
    exact s_ret (v := .int ((crc os : Nat) : Int)) (ev_op (ev_var rfl) ev_c (rv_xor _ 4294967295)) fun H3 e3 => q _ ((x2.trans e).trans e3)
theorem ok__law_turned_bits (D : Dn K mg "_law_turned_bits" s__law_turned_bits ["number"]) (z_int : mg "int" = none) (z_range : mg "range" = none) :
    C8.Cal P w K mg base 1 "_law_turned_bits" (sp__law_turned_bits K) [] := by
  refine cal_of D sc__law_turned_bits (fun vs H Q E h => ?_) (fun f cdv A outer s H vs Q E hr h => ?_)
  · obtain ⟨_, rfl, _⟩ := h
    rfl
  refine ⟨_, (pss_cons (ps_set (i := 1) sc__law_turned_bits.nd rfl (.inl rfl) pe_int)
    (pss_cons (ps_for PassesOwn.never rfl (pi_range1 rfl z_range (pa_cons pe_int pa_nil)) (pg_name (i := 2) sc__law_turned_bits.nd rfl (.inl rfl))
      (pss_cons (ps_set (i := 1) sc__law_turned_bits.nd rfl (.inl rfl) (pe_op op_add (pe_op op_mul pe_int (pv 1)) (pe_op op_mod (pe_callTy call_int1 (by rfl) z_int (by decide +kernel) (pa_cons (pv 0) pa_nil)) pe_int)))
    (pss_one (ps_set (i := 0) sc__law_turned_bits.nd rfl (.inl rfl) (pe_op op_fdiv (pv 0) pe_int)))))
    (pss_one (ps_ret (pv 1))))), ?_⟩
  obtain ⟨r, rfl, q⟩ := h
  refine q_asg (v := .int 0) ev_c fun H1 e1 => ?_
  refine q_forR1 (n := 32) (ea_cons ev_c ea_nil) ⟨by decide, by decide⟩ (fun i σ' H' => ∃ kv, σ' = [some (.int ((r / 2 ^ i : Nat) : Int)), some (.int ((tu i r : Nat) : Int)), kv] ∧ Ex H1 H') (fun H2 e2 => ⟨none, ?_, e2⟩) (fun i σ' H' hi p => ?_) fun σ' H' p => ?_
  · rw [Nat.pow_zero, Nat.div_one]
    rfl
  · obtain ⟨kv, es, e⟩ := p
    subst es
    refine q_asg (v := .int ((tu (i + 1) r : Nat) : Int)) (ev_is (v := .int (2 * ((tu i r : Nat) : Int) + ((r / 2 ^ i : Nat) : Int) % 2)) (ev_op (ev_op ev_c (ev_var rfl) (rv_I (.inl ⟨by decide, by decide⟩))) (ev_op (ev_int (ev_var rfl)) ev_c (rv_I (by decide))) rv_I0) ?_) fun H4 e4 => ?_
    · show _ = V.int ((2 * tu i r + r / 2 ^ i % 2 : Nat) : Int)
      congr 1
    refine s_asg (v := .int ((r / 2 ^ (i + 1) : Nat) : Int)) (ev_is (v := .int (((r / 2 ^ i : Nat) : Int) / 2)) (by walk_at "ev") ?_) fun H5 e5 => ⟨_, rfl, (e.trans e4).trans e5⟩
    rw [Nat.pow_succ, ← Nat.div_div_eq_div_mul]
    congr 1
  · obtain ⟨kv, es, e⟩ := p
    subst es
    exact s_ret (ev_var rfl) fun H3 e3 => q _ ((e1.trans e).trans e3)
theorem ok__law_crc (D : Dn K mg "_law_crc" s__law_crc ["octets"]) (c__law_turned_bits : C8.Cal P w K mg base 1 "_law_turned_bits" (sp__law_turned_bits K) []) (z_int : mg "int" = none) (z_range : mg "range" = none) :
    C8.Cal P w K mg base 2 "_law_crc" (sp__law_crc K) [] := by
  refine cal_of D sc__law_crc (fun vs H Q E h => ?_) (fun f cdv A outer s H vs Q E hr h => ?_)
  · obtain ⟨_, _, rfl, _⟩ := h
    rfl
  refine ⟨_, (pss_cons (ps_set (i := 1) sc__law_crc.nd rfl (.inl rfl) pe_int)
    (pss_cons (ps_for PassesOwn.never rfl (pi_list (pv 0)) (pg_name (i := 2) sc__law_crc.nd rfl (.inl rfl))
      (pss_one (ps_for PassesOwn.never rfl (pi_range1 rfl z_range (pa_cons pe_int pa_nil)) (pg_name (i := 3) sc__law_crc.nd rfl (.inl rfl))
      (pss_cons (ps_set (i := 4) sc__law_crc.nd rfl (.inl rfl) (pv 2))
    (pss_cons (ps_for PassesOwn.never rfl (pi_range1 rfl z_range (pa_cons (pv 3) pa_nil)) (pg_name (i := 5) sc__law_crc.nd rfl (.inl rfl))
      (pss_one (ps_set (i := 4) sc__law_crc.nd rfl (.inl rfl) (pe_op op_fdiv (pv 4) pe_int))))
    (pss_cons (ps_set (i := 6) sc__law_crc.nd rfl (.inl rfl) (pe_op op_fdivW (pv 1) pe_int))
    (pss_cons (ps_set (i := 1) sc__law_crc.nd rfl (.inl rfl) (pe_op op_mod (pe_callTy call_int1 (by rfl) z_int (by decide +kernel) (pa_cons (pe_op op_mul (pv 1) pe_int) pa_nil)) pe_int))
    (pss_one (ps_if (pt_cmpR op_ne (pv 6) (pe_op op_mod (pe_callTy call_int1 (by rfl) z_int (by decide +kernel) (pa_cons (pv 4) pa_nil)) pe_int) (nomark _))
      (pss_one (ps_set (i := 1) sc__law_crc.nd rfl (.inl rfl) (pe_op op_xor (pv 1) pe_int)))
      pss_nil)))))))))
    (pss_one (ps_ret (pe_op op_sub pe_int (C8.pe_c c__law_turned_bits hr (by decide) (by rfl) (pa_cons (pv 1) pa_nil))))))), ?_⟩
  obtain ⟨a, os, rfl, hS, ho, q⟩ := h
  refine q_asg (v := .int 4294967295) ev_c fun H1 e1 => ?_
  refine q_forLn (ev_var rfl) (ex_l e1 hS) (fun i σ' H' => ∃ v2 v3 v4 v5 v6, σ' = [some (.ref a), some (.int (((os.take i).foldl lO 4294967295 : Nat) : Int)), v2, v3, v4, v5, v6] ∧ Ex H1 H') (fun H3 e3 => ⟨_, _, _, _, _, rfl, e3⟩) (fun i σ' H' _ pv => ?_) (fun i x σ' H' hx pv => ?_) fun σ' H' pv => ?_
  · obtain ⟨v2, v3, v4, v5, v6, es, e⟩ := pv
    exact ex_l (e1.trans e) hS
  · obtain ⟨v2, v3, v4, v5, v6, es, e⟩ := pv
    subst es
    obtain ⟨o, hi, rfl⟩ := zs_at hx
    rw [foldl_take hi]
    generalize (os.take i).foldl lO 4294967295 = r
    refine s_forR1 (n := 8) (ea_cons ev_c ea_nil) ⟨by decide, by decide⟩ (fun k σ' H2 => ∃ v3 v4 v5 v6, σ' = [some (.ref a), some (.int ((lB r o k : Nat) : Int)), some (.int (o : Int)), v3, v4, v5, v6] ∧ Ex H1 H2) (fun H3 e3 => ⟨_, _, _, _, rfl, e.trans e3⟩) (fun k σ' H2 hk pv => ?_) fun σ' H2 pv => ?_
    · obtain ⟨v3, v4, v5, v6, es, e2⟩ := pv
      subst es
      refine q_asg (ev_var rfl) fun H3 e3 => ?_
      refine q_forR1 (n := (k : Int)) (ea_cons (ev_var rfl) ea_nil) ⟨by omega, by omega⟩ (fun j σ' H2 => ∃ v5, σ' = [some (.ref a), some (.int ((lB r o k : Nat) : Int)), some (.int (o : Int)), some (.int (k : Int)), some (.int ((o / 2 ^ j : Nat) : Int)), v5, v6] ∧ Ex H3 H2) (fun H4 e4 => ⟨v5, ?_, e4⟩) (fun j σ' H4 hj pv => ?_) fun σ' H4 pv => ?_
      · rw [Nat.pow_zero, Nat.div_one]
        rfl
      · obtain ⟨v5, es, e4⟩ := pv
        subst es
        refine s_asg (v := .int ((o / 2 ^ (j + 1) : Nat) : Int)) (ev_is (v := .int (((o / 2 ^ j : Nat) : Int) / 2)) (by walk_at "ev") ?_) fun H5 e5 => ⟨_, rfl, e4.trans e5⟩
        rw [Nat.pow_succ, ← Nat.div_div_eq_div_mul]
        congr 1
      · obtain ⟨v5, es, e4⟩ := pv
        rw [Int.toNat_natCast] at es
        subst es
        have x4 := (e2.trans e3).trans e4
        show (_ : TS) _ _ _
        have hB : lB r o (k + 1) = Lw (lB r o k) (o / 2 ^ k % 2) := rfl
        rw [hB]
        generalize lB r o k = n
        generalize o / 2 ^ k = b
        refine q_asg (v := .int ((n / 2147483648 : Nat) : Int)) (ev_is (v := .int ((n : Int) / 2147483648)) (ev_op (ev_var rfl) ev_c (rv_I (wide_div (b := 40) (by decide) (by decide) (by decide) (by decide)))) (by congr 1)) fun H5 e5 => ?_
        refine q_asg (v := .int ((2 * n % 4294967296 : Nat) : Int)) (ev_is (v := .int ((n : Int) * 2 % 4294967296)) (ev_op (ev_int (ev_op (ev_var rfl) ev_c (rv_I (.inr ⟨by decide, by decide⟩)))) ev_c (rv_I (by decide))) (by congr 1; omega)) fun H6 e6 => ?_
        have x6 := (x4.trans e5).trans e6
        refine s_when (b := !decide (V.int ((n / 2147483648 : Nat) : Int) = V.int ((b : Int) % 2))) (et_test (ev_op (ev_var rfl) (ev_op (ev_int (ev_var rfl)) ev_c (rv_I (by decide))) (rv_ne rfl))) (fun hb H7 e7 => ?_) fun hb H7 e7 => ?_
        · have hc : n / 2147483648 ≠ b % 2 := by
            intro z
            rw [Bool.not_eq_true', decide_eq_false_iff_not] at hb
            exact hb (by rw [z]; congr 1)
          refine s_asg (v := .int ((Lw n (b % 2) : Nat) : Int)) (ev_is (ev_op (ev_var rfl) ev_c (rv_xor (2 * n % 4294967296) 79764919)) ?_) fun H8 e8 => ⟨_, _, _, _, rfl, (x6.trans e7).trans e8⟩
          unfold Lw
          rw [if_pos hc]
        · have hc : ¬ n / 2147483648 ≠ b % 2 := by
            intro z
            rw [Bool.not_eq_false', decide_eq_true_eq] at hb
            have := V.int.inj hb
            omega
          refine ⟨some (.int (k : Int)), some (.int (b : Int)), v5, some (.int ((n / 2147483648 : Nat) : Int)), ?_, x6.trans e7⟩
          unfold Lw
          rw [if_neg hc]
          rfl
    · obtain ⟨v3, v4, v5, v6, es, e2⟩ := pv
      subst es
      exact ⟨_, _, _, _, _, rfl, e2⟩
  · obtain ⟨v2, v3, v4, v5, v6, es, e⟩ := pv
    subst es
    rw [zs_len, List.take_length]
    have hl := tu_lt 32 (os.foldl lO 4294967295)
    refine s_ret (v := .int ((crc os : Nat) : Int)) (ev_is (v := .int (4294967295 - ((tu 32 (os.foldl lO 4294967295) : Nat) : Int))) (ev_op ev_c (ev_call (ea_cons (ev_var rfl) ea_nil) fun H1 e Q q E => ⟨_, rfl, q⟩) rv_I0) ?_) fun H3 e3 => q _ ((e1.trans e).trans e3)
    rw [← law_crc ho]
    congr 1
    omega
section
variable {σ : L2.St} {H : Hp} {ta tb tc : TE} {E : XK}
theorem ec_crc {a : Addr} {os : List Nat} (ha : Ev ta σ H (.ref a)) (h : SqL K H a ((zs os).map V.int)) (ho : Oct os) : Ev (tCall (sp_checksum K) [] E (tCons ta tNil)) σ H (.int (crc os : Nat)) := ev_call (ea_cons ha ea_nil) fun H1 e Q q E => ⟨a, os, rfl, ex_l e h, ho, q⟩
theorem ec_crcN {os : List Nat} (ha : EvL ta σ H ((zs os).map V.int)) (ho : Oct os) : Ev (tCall (sp_checksum K) [] E (tCons ta tNil)) σ H (.int (crc os : Nat)) := fun H1 e Q q =>
  ha H1 e _ fun p H2 hp e2 h2 => ⟨p, os, rfl, sq_of h2, ho, fun H3 e3 => q H3 (e2.trans e3)⟩
end
theorem ok_law {f : Addr} {fd : FuncData} (D : C8.Def K mg "law" s_law f fd) (c__law_cell : C8.Cal P w K mg base 1 "_law_cell" (sp__law_cell K) []) (c__law_crc : C8.Cal P w K mg base 2 "_law_crc" (sp__law_crc K) []) (c__law_digit : C8.Cal P w K mg base 1 "_law_digit" (sp__law_digit K) []) (c__law_is_integer : C8.Cal P w K mg base 1 "_law_is_integer" (sp__law_is_integer K) []) (c__law_state : C8.Cal P w K mg base 1 "_law_state" (sp__law_state K) []) (c_checksum : C8.Cal P w K mg base 2 "checksum" (sp_checksum K) []) (z_int : mg "int" = none) (z_len : mg "len" = none) (z_list : mg "list" = none) (z_min : mg "min" = none) (z_range : mg "range" = none) :
    FnOk P w K mg base C8.CX0 3 f fd ["script"] (sp_law K) := by
  refine C8.fn0 D.fn sc_law (fun vs H Q E h => ?_) (fun cdv A outer s H vs Q E hr h => ?_)
  · obtain ⟨_, _, rfl, _⟩ := h
    rfl
  refine ⟨_, (pss_cons (ps_set (i := 1) sc_law.nd rfl (.inl rfl) (pe_lst pa_nil))
    (pss_cons (ps_for PassesOwn.never rfl (pi_range1 rfl z_range (pa_cons (pe_callB (call_min2 rfl) (by rfl) z_min (by decide +kernel) (pa_cons pe_int (pa_cons (pe_callB call_len_seq (by rfl) z_len PySem.boot_len (pa_cons (pv 0) pa_nil)) pa_nil))) pa_nil)) (pg_name (i := 2) sc_law.nd rfl (.inl rfl))
      (pss_one (ps_expr (pe_bm PySem.F.plainAttrs_list PySem.F.slot_list_append PySem.F.type_list_append mt_append (pv 1) (pa_cons (C8.pe_c c__law_digit hr (by decide) (by rfl) (pa_cons (C8.pe_c c__law_state hr (by decide) (by rfl) (pa_cons (pe_ix ix_list (pv 0) (pv 2) (fun _ _ => rfl)) (pa_cons (pv 2) pa_nil))) (pa_cons pe_int pa_nil))) pa_nil)))))
    (pss_cons (ps_set (i := 3) sc_law.nd rfl (.inl rfl) (pe_callTy call_list_of (by rfl) z_list (by decide +kernel) (pa_cons (pv 1) pa_nil)))
    (pss_cons (ps_set (i := 4) sc_law.nd rfl (.inl rfl) (C8.pe_c c_checksum hr (by decide) (by rfl) (pa_cons (pv 3) pa_nil)))
    (pss_cons (ps_if (PW.pt (pw_or (pt_not (pt_val (C8.pe_c c__law_is_integer hr (by decide) (by rfl) (pa_cons (pv 4) pa_nil)))) (pw_or (pt_cmpR op_ne (pv 4) (C8.pe_c c__law_crc hr (by decide) (by rfl) (pa_cons (pv 1) pa_nil)) (nomark _)) (pw_or1 (pt_cmpR (op_neD (hu64 hr)) (pv 3) (pv 1) (nomark _))))))
      (pss_one (ps_ret pe_bl))
      pss_nil)
    (pss_cons (ps_if (PW.pt (pw_or (pt_cmpR op_ne (C8.pe_c c_checksum hr (by decide) (by rfl) (pa_cons (pe_lst (pa_cons pe_int (pa_cons pe_int (pa_cons pe_int (pa_cons pe_int (pa_cons pe_int (pa_cons pe_int (pa_cons pe_int (pa_cons pe_int (pa_cons pe_int pa_nil)))))))))) pa_nil)) pe_int (nomark _)) (pw_or1 (pt_cmpR op_ne (C8.pe_c c_checksum hr (by decide) (by rfl) (pa_cons (pe_lst pa_nil) pa_nil)) pe_int (nomark _)))))
      (pss_one (ps_ret pe_bl))
      pss_nil)
    (pss_cons (ps_set (i := 5) sc_law.nd rfl (.inl rfl) (C8.pe_c c__law_state hr (by decide) (by rfl) (pa_cons (C8.pe_c c__law_cell hr (by decide) (by rfl) (pa_cons (pv 0) (pa_cons pe_int pa_nil))) (pa_cons pe_int pa_nil))))
    (pss_cons (ps_if (pt_cmpR op_gt (pe_callB call_len_seq (by rfl) z_len PySem.boot_len (pa_cons (pv 1) pa_nil)) pe_int (nomark _))
      (pss_cons (ps_set (i := 6) sc_law.nd rfl (.inl rfl) (C8.pe_c c__law_digit hr (by decide) (by rfl) (pa_cons (pv 5) (pa_cons (pe_callB call_len_seq (by rfl) z_len PySem.boot_len (pa_cons (pv 1) pa_nil)) pa_nil))))
    (pss_cons (ps_set (i := 7) sc_law.nd rfl (.inl rfl) (pe_callTy call_list_of (by rfl) z_list (by decide +kernel) (pa_cons (pv 1) pa_nil)))
    (pss_cons (ps_asg (pe_op op_mod (pe_callTy call_int1 (by rfl) z_int (by decide +kernel) (pa_cons (pe_op op_add (pe_op op_add (pe_ix ix_list (pv 7) (pv 6) (fun _ _ => rfl)) pe_int) (C8.pe_c c__law_digit hr (by decide) (by rfl) (pa_cons (pv 5) (pa_cons pe_int pa_nil)))) pa_nil)) pe_int) (pg_sub (pv 7) (pv 6) set_list))
    (pss_cons (ps_if (pt_cmpR op_eq (C8.pe_c c_checksum hr (by decide) (by rfl) (pa_cons (pv 7) pa_nil)) (pv 4) (nomark _))
      (pss_one (ps_ret pe_bl))
      pss_nil)
    (pss_cons (ps_set (i := 7) sc_law.nd rfl (.inl rfl) (pe_callTy call_list_of (by rfl) z_list (by decide +kernel) (pa_cons (pv 1) pa_nil)))
    (pss_one (ps_if (PW.pt (pw_and (pt_cmpR op_gt (pv 6) pe_int (nomark _)) (pw_and1 (pt_cmpR op_ne (pe_ix ix_list (pv 7) (pv 6) (fun _ _ => rfl)) (pe_ix ix_list (pv 7) (pe_op op_sub (pv 6) pe_int) (fun _ _ => rfl)) (nomark _)))))
      (pss_cons (ps_asg (pe_ix ix_list (pv 1) (pe_op op_sub (pv 6) pe_int) (fun _ _ => rfl)) (pg_sub (pv 7) (pv 6) set_list))
    (pss_cons (ps_asg (pe_ix ix_list (pv 1) (pv 6) (fun _ _ => rfl)) (pg_sub (pv 7) (pe_op op_sub (pv 6) pe_int) set_list))
    (pss_one (ps_if (pt_cmpR op_eq (C8.pe_c c_checksum hr (by decide) (by rfl) (pa_cons (pv 7) pa_nil)) (pv 4) (nomark _))
      (pss_one (ps_ret pe_bl))
      pss_nil))))
      pss_nil)))))))
      pss_nil)
    (pss_one (ps_ret pe_bl)))))))))), ?_⟩
  obtain ⟨a, ns, rfl, hS, h63, q⟩ := h
  refine q_asgL (el_lst ea_nil (by decide)) fun p1 H1 hp1 e1 h1 => ?_
  refine q_forR1 (n := if (((ns.map V.int).length : Nat) : Int) < 60 then (((ns.map V.int).length : Nat) : Int) else 60) (ea_cons (ev_min2 ev_c (ev_len (ev_var rfl) (ex_l e1 hS))) ea_nil) ⟨by split <;> omega, by split <;> omega⟩
    (fun i σ' H' => ∃ kv os, σ' = [some (.ref a), some (.ref p1), kv, none, none, none, none, none] ∧ os.length = i ∧ Oct os ∧ Ex H H' ∧ H' p1 = some (.lst ((zs os).map V.int))) (fun H4 e4 => ⟨_, [], rfl, rfl, fun y hy => (nomatch hy), e1.trans e4, e4 _ _ h1⟩) (fun i σ' H' hi pv => ?_) fun σ' H2 pv => ?_
  · obtain ⟨kv, os, es, hl, hI, e, hx⟩ := pv
    subst es
    have hi' : i < ns.length := by rw [List.length_map] at hi; split at hi <;> omega
    refine s_appN (xs := (zs os).map V.int) hx (ev_var rfl) (en_digit (m := 256) (ec_state (c := ns[i]) (k := (i : Int)) (ev_op (ev_var rfl) (ev_var rfl) (rv_ixL (ex_l e hS) (atI_nat (by rw [List.getElem?_map, List.getElem?_eq_getElem hi']; rfl)))) (ev_var rfl)) ev_c (by decide) (by decide)) (by rw [zs_len]; omega) fun v H5 hv e5 => ?_
    obtain ⟨v, rfl, hv⟩ := hv
    obtain ⟨v, rfl⟩ := Int.eq_ofNat_of_zero_le hv.1
    refine ⟨_, os ++ [v], rfl, by rw [List.length_append, hl]; rfl, fun y hy => ?_, Ex.mut (e.trans e5) hp1, ?_⟩
    · rcases List.mem_append.mp hy with h | h
      · exact hI y h
      · rw [List.mem_singleton.mp h]
        omega
    · rw [upd_same]
      unfold zs
      rw [List.map_append, List.map_append]
      rfl
  obtain ⟨kv, os, es, hl, hI, x2, hx⟩ := pv
  have hl1 : os.length ≤ 63 := by rw [hl, List.length_map]; split <;> omega
  clear hl
  subst es
  refine q_asgL (el_list (ev_var rfl) (sq_of hx)) fun p3 H3 hp3 e3 h3 => ?_
  refine q_asg (ec_crc (ev_var rfl) (sq_of h3) hI) fun H4 e4 => ?_
  have x4 := e3.trans e4
  refine q_when (b := !true || (!decide (V.int ((crc os : Nat) : Int) = V.int ((crc os : Nat) : Int)) || !decide (zs os = zs os))) (et_or (et_not (et_B (ec_isint (ev_var rfl)))) fun _ => et_or (et_test (ev_op (ev_var rfl) (ev_call (ea_cons (ev_var rfl) ea_nil) fun H1 e Q q E => ⟨p1, os, rfl, ex_l e (sq_of (x4 _ _ hx)), hI, q⟩) (rv_ne rfl))) fun _ => et_test (ev_op (ev_var rfl) (ev_var rfl) (rv_neL (sq_of (e4 _ _ h3)) (sq_of (x4 _ _ hx))))) (fun hb => by simp at hb) fun _ H5 e5 => ?_
  refine q_when (b := !decide (V.int ((crc [49, 50, 51, 52, 53, 54, 55, 56, 57] : Nat) : Int) = V.int 3421780262) || !decide (V.int ((crc [] : Nat) : Int) = V.int 0)) (et_or (et_test (ev_op (ec_crcN (el_lst (ea_cons ev_c (ea_cons ev_c (ea_cons ev_c (ea_cons ev_c (ea_cons ev_c (ea_cons ev_c (ea_cons ev_c (ea_cons ev_c (ea_cons ev_c ea_nil))))))))) (by show 9 ≤ 100000; decide)) (fun y hy => by simp at hy; omega)) ev_c (rv_ne rfl))) fun _ => et_test (ev_op (ec_crcN (el_lst ea_nil (by decide)) (fun y hy => by cases hy)) ev_c (rv_ne rfl))) (fun hb => by
    rw [crc_nine, crc_none] at hb
    simp at hb) fun _ H6 e6 => ?_
  have x6 := (x4.trans e5).trans e6
  refine q_asgC (ec_state (ec_cell (ev_var rfl) ev_c (ex_l (x2.trans x6) hS) (by decide)) ev_c) fun p5 H7 hp5 e7 d7 => ?_
  have x7 := x6.trans e7
  refine q_when (b := decide ((((zs os).map V.int).length : Nat) > (0 : Int))) (et_test (ev_op (ev_len (ev_var rfl) (sq_of (x7 _ _ hx))) ev_c rv_I0)) (fun hb H8 e8 => ?_) fun _ H8 e8 => s_ret (v := .bl true) ev_c fun H9 e9 => q H9
  have hpos : 0 < os.length := by
    have := of_decide_eq_true hb
    rw [zs_len] at this
    omega
  have w8 : Ex H6 (wo p5 H8) := wx_to hp5 (e7.trans e8)
  have s8 : wo p5 H8 p1 = some (.lst ((zs os).map V.int)) := w8 _ _ (x6 _ _ hx)
  refine qz_asg (ez_digit (m := (((zs os).map V.int).length : Nat)) (ev_var rfl) (ev_len (ev_var rfl) (sq_of s8)) (by rw [zs_len]; omega) (by rw [zs_len]; omega)) (d7.ex e8) fun pl H9 hpl e9 d9 => ?_
  rw [zs_len] at hpl
  obtain ⟨pl, rfl⟩ := Int.eq_ofNat_of_zero_le hpl.1
  have hpl' : pl < os.length := by omega
  have w9 : Ex H6 (wo p5 H9) := wx_to hp5 (wx_back hp5 (e7.trans e8) e9)
  have y9 : Ex H6 H9 := w9.trans (wo_le _ _)
  refine q_asgL (el_list (ev_var rfl) (sq_of (y9 _ _ (x6 _ _ hx)))) fun p7 Ha hp7 ea h7 => ?_
  have ya := y9.trans ea
  have hne : p7 ≠ p5 := fun z => by
    obtain ⟨s, _, hs⟩ := d9
    rw [z, hs] at hp7
    cases hp7
  have wa : wo p5 Ha p7 = some (.lst ((zs os).map V.int)) := by rw [wo_ne hne]; exact h7
  have hat : os[pl]? = some os[pl] := List.getElem?_eq_getElem hpl'
  have ho := hI _ (List.getElem_mem hpl')
  generalize os[pl] = o at hat ho
  refine q1_setL (j := pl) (P := fun v => ∃ d : Nat, v = .int (d : Int) ∧ d < 256 ∧ d ≠ o) wa ?_ (d9.ex ea) (ev_var rfl) (ev_var rfl) (by rw [zs_len]; exact hpl') fun v Hb hv eb db => ?_
  · refine e1_mono (ez_op (PI := fun i => (o : Int) + 1 ≤ i ∧ i ≤ (o : Int) + 255) (RI := fun j => j = 256) (SI := fun i => 0 ≤ i ∧ i < 256 ∧ i ≠ (o : Int)) (ez_int (ez_op0 (PI := fun i => i = (o : Int) + 1) (RI := fun d => 0 ≤ d ∧ d < 255) (e1_int (i := (o : Int) + 1) (ev_op (ev_op (ev_var rfl) (ev_var rfl) (rv_ixL (sq_of wa) (atI_nat (zs_of hat)))) ev_c rv_I0) rfl) (ez_digit (ev_var rfl) ev_c (by decide) (by decide)) fun i j hi hj => ⟨by omega, by omega⟩)) (e1_int ev_c rfl) fun i j hi hj => ?_) fun v hv => ?_
    · subst hj
      exact ⟨by decide, by omega, by omega, by omega⟩
    · obtain ⟨i, rfl, hi⟩ := hv
      exact ⟨i.toNat, by rw [Int.toNat_of_nonneg hi.1], by omega, by omega⟩
  obtain ⟨d, rfl, hd, hdo⟩ := hv
  rw [zs_set]
  have yb : Ex H6 (upd Hb p7 (.lst ((zs (os.set pl d)).map V.int))) := Ex.mut (wx_back hp5 ya eb) (fresh_back y9 hp7)
  have hset : ∀ {l : List Nat} {i x : Nat}, Oct l → x < 256 → Oct (l.set i x) := fun hl hx y hy => by
    rcases List.mem_or_eq_of_mem_set hy with z | z
    · exact hl y z
    · rw [z]; exact hx
  have hc1 : ¬ V.int ((crc (os.set pl d) : Nat) : Int) = V.int ((crc os : Nat) : Int) := fun z => by
    have z2 : crc (os.set pl d) = crc os := Int.ofNat.inj (V.int.inj z)
    obtain ⟨l, c, r, eo, es, ha⟩ := split1 hpl' d
    have ec : o = c := Option.some.inj (hat.symm.trans ha)
    subst ec
    rw [es] at z2
    rw [eo] at z2 hI
    exact hdo (crc_one (fun y hy => hI y (List.mem_append_left _ hy)) (fun y hy => hI y (List.mem_append_right _ (List.mem_cons_of_mem _ hy))) hd ho z2)
  refine q_when (b := decide (V.int ((crc (os.set pl d) : Nat) : Int) = V.int ((crc os : Nat) : Int))) (et_test (ev_op (ec_crc (ev_var rfl) (sq_of upd_same) (hset hI hd)) (ev_var rfl) (rv_eq rfl))) (fun hb => absurd (of_decide_eq_true hb) hc1) fun _ Hc ec => ?_
  have yc := yb.trans ec
  refine q_asgL (el_list (ev_var rfl) (sq_of (yc _ _ (x6 _ _ hx)))) fun p8 Hd hp8 ed h8 => ?_
  have yd := yc.trans ed
  have h1d := yd _ _ (x6 _ _ hx)
  have im : ∀ {σ : L2.St} {H : Hp}, σ[6]? = some (some (V.int (pl : Int))) → 0 < pl → Ev (tOp (rI0 fun i j => .int (i - j)) (tVar 6) (tC (.int 1))) σ H (.int ((pl - 1 : Nat) : Int)) := fun hσ h => ev_is (ev_op (ev_var hσ) ev_c rv_I0) (by congr 1; omega)
  have hpre : 0 < pl → os[pl - 1]? = some (os.getD (pl - 1) 0) := fun h => by
    rw [List.getD_eq_getElem?_getD, List.getElem?_eq_getElem (show pl - 1 < os.length by omega)]
    rfl
  generalize os.getD (pl - 1) 0 = pr at hpre
  refine s_when (b := decide ((pl : Int) > 0) && !decide (V.int (o : Int) = V.int (pr : Int))) (et_and (et_test (ev_op (ev_var rfl) ev_c rv_I0)) fun hp => ?_) (fun hb He ee => ?_) fun _ He ee => by dsimp only; exact s_ret (v := .bl true) ev_c fun H9 e9 => q H9
  · have hp' : 0 < pl := by have := of_decide_eq_true hp; omega
    exact et_test (ev_op (ev_op (ev_var rfl) (ev_var rfl) (rv_ixL (sq_of h8) (atI_nat (zs_of hat)))) (ev_op (ev_var rfl) (im rfl hp') (rv_ixL (sq_of h8) (atI_nat (zs_of (hpre hp'))))) (rv_ne rfl))
  rw [Bool.and_eq_true, Bool.not_eq_true', decide_eq_false_iff_not] at hb
  have hp' : 0 < pl := by have := of_decide_eq_true hb.1; omega
  have hpr := hpre hp'
  have hn8 : H6 p8 = none := fresh_back yc hp8
  have hne8 : p1 ≠ p8 := fun z => by
    rw [← z] at hp8
    rw [yc _ _ (x6 _ _ hx)] at hp8
    cases hp8
  refine q_setL (v := .int (pr : Int)) (j := pl) (ee _ _ h8) (ev_op (ev_var rfl) (im rfl hp') (rv_ixL (sq_of (ee _ _ h1d)) (atI_nat (zs_of hpr)))) (ev_var rfl) (ev_var rfl) (by rw [zs_len]; exact hpl') fun Hf ef => ?_
  rw [zs_set]
  have f1 : upd Hf p8 (.lst ((zs (os.set pl pr)).map V.int)) p1 = some (.lst ((zs os).map V.int)) := by
    rw [upd_ne hne8]
    exact ef _ _ (ee _ _ h1d)
  refine q_setL (v := .int (o : Int)) (j := pl - 1) upd_same (ev_op (ev_var rfl) (ev_var rfl) (rv_ixL (sq_of f1) (atI_nat (zs_of hat)))) (ev_var rfl) (im rfl hp') (by rw [zs_len, List.length_set]; omega) fun Hg eg => ?_
  rw [zs_set]
  have hpr8 : pr < 256 := hI pr (List.mem_of_getElem? hpr)
  have hc2 : ¬ V.int ((crc ((os.set pl pr).set (pl - 1) o) : Nat) : Int) = V.int ((crc os : Nat) : Int) := fun z => by
    have z2 : crc ((os.set pl pr).set (pl - 1) o) = crc os := Int.ofNat.inj (V.int.inj z)
    obtain ⟨l, r, eo, es⟩ := split2 (j := pl - 1) hpr (show os[pl - 1 + 1]? = some o by rw [show pl - 1 + 1 = pl by omega]; exact hat)
    rw [show pl - 1 + 1 = pl by omega] at es
    rw [es] at z2
    rw [eo] at z2 hI
    have e3 := crc_two (fun y hy => hI y (List.mem_append_left _ hy)) (fun y hy => hI y (List.mem_append_right _ (List.mem_cons_of_mem _ (List.mem_cons_of_mem _ hy)))) ho hpr8 z2
    exact hb.2 (by rw [e3])
  exact s_when (b := decide (V.int ((crc ((os.set pl pr).set (pl - 1) o) : Nat) : Int) = V.int ((crc os : Nat) : Int))) (et_test (ev_op (ec_crc (ev_var rfl) (sq_of upd_same) (hset (hset hI hpr8) ho)) (ev_var rfl) (rv_eq rfl))) (fun hb => absurd (of_decide_eq_true hb) hc2) fun _ Hh eh => by dsimp only; exact s_ret (v := .bl true) ev_c fun H9 e9 => q H9
end
theorem all_mk {P : Program} {w : World} {K : PySem.W.Frag} {h : Heap} {mg : Str → Option Value} {fa : Addr} (X : K.In h) (G : h.Ns mainGlobals mg) (hfa : mg "law" = some (.ref fa))
    {f0 : Addr} {od0 an0 : Option Addr} {sl0 : Array (Option Value)} {oc0 kV0 dc0 pm0 cd0 ct0 : Value} (a0 : PySem.W.nsIn K mainGlobals "_checksum_of_octet" = some (some (.ref f0))) (l0 : K.lookup f0 = some ⟨oc0, od0, .func (PySem.W.fnOf "_checksum_of_octet" "_checksum_of_octet" (C8.fnArgs s__checksum_of_octet) (C8.fnBody s__checksum_of_octet) (C8.fnScope s__checksum_of_octet) .none kV0 dc0 pm0 an0 cd0 ct0), sl0⟩) (b0 : PySem.W.codeIn K cd0 "_checksum_of_octet" = true) (k0 : PySem.W.keepIn K (.ref f0) = true)
    {f1 : Addr} {od1 an1 : Option Addr} {sl1 : Array (Option Value)} {oc1 kV1 dc1 pm1 cd1 ct1 : Value} (a1 : PySem.W.nsIn K mainGlobals "checksum" = some (some (.ref f1))) (l1 : K.lookup f1 = some ⟨oc1, od1, .func (PySem.W.fnOf "checksum" "checksum" (C8.fnArgs s_checksum) (C8.fnBody s_checksum) (C8.fnScope s_checksum) .none kV1 dc1 pm1 an1 cd1 ct1), sl1⟩) (b1 : PySem.W.codeIn K cd1 "checksum" = true) (k1 : PySem.W.keepIn K (.ref f1) = true)
    {f2 : Addr} {od2 an2 : Option Addr} {sl2 : Array (Option Value)} {oc2 kV2 dc2 pm2 cd2 ct2 : Value} (a2 : PySem.W.nsIn K mainGlobals "_law_cell" = some (some (.ref f2))) (l2 : K.lookup f2 = some ⟨oc2, od2, .func (PySem.W.fnOf "_law_cell" "_law_cell" (C8.fnArgs s__law_cell) (C8.fnBody s__law_cell) (C8.fnScope s__law_cell) .none kV2 dc2 pm2 an2 cd2 ct2), sl2⟩) (b2 : PySem.W.codeIn K cd2 "_law_cell" = true) (k2 : PySem.W.keepIn K (.ref f2) = true)
    {f3 : Addr} {od3 an3 : Option Addr} {sl3 : Array (Option Value)} {oc3 kV3 dc3 pm3 cd3 ct3 : Value} (a3 : PySem.W.nsIn K mainGlobals "_law_state" = some (some (.ref f3))) (l3 : K.lookup f3 = some ⟨oc3, od3, .func (PySem.W.fnOf "_law_state" "_law_state" (C8.fnArgs s__law_state) (C8.fnBody s__law_state) (C8.fnScope s__law_state) .none kV3 dc3 pm3 an3 cd3 ct3), sl3⟩) (b3 : PySem.W.codeIn K cd3 "_law_state" = true) (k3 : PySem.W.keepIn K (.ref f3) = true)
    {f4 : Addr} {od4 an4 : Option Addr} {sl4 : Array (Option Value)} {oc4 kV4 dc4 pm4 cd4 ct4 : Value} (a4 : PySem.W.nsIn K mainGlobals "_law_digit" = some (some (.ref f4))) (l4 : K.lookup f4 = some ⟨oc4, od4, .func (PySem.W.fnOf "_law_digit" "_law_digit" (C8.fnArgs s__law_digit) (C8.fnBody s__law_digit) (C8.fnScope s__law_digit) .none kV4 dc4 pm4 an4 cd4 ct4), sl4⟩) (b4 : PySem.W.codeIn K cd4 "_law_digit" = true) (k4 : PySem.W.keepIn K (.ref f4) = true)
    {f5 : Addr} {od5 an5 : Option Addr} {sl5 : Array (Option Value)} {oc5 kV5 dc5 pm5 cd5 ct5 : Value} (a5 : PySem.W.nsIn K mainGlobals "_law_is_integer" = some (some (.ref f5))) (l5 : K.lookup f5 = some ⟨oc5, od5, .func (PySem.W.fnOf "_law_is_integer" "_law_is_integer" (C8.fnArgs s__law_is_integer) (C8.fnBody s__law_is_integer) (C8.fnScope s__law_is_integer) .none kV5 dc5 pm5 an5 cd5 ct5), sl5⟩) (b5 : PySem.W.codeIn K cd5 "_law_is_integer" = true) (k5 : PySem.W.keepIn K (.ref f5) = true)
    {f6 : Addr} {od6 an6 : Option Addr} {sl6 : Array (Option Value)} {oc6 kV6 dc6 pm6 cd6 ct6 : Value} (a6 : PySem.W.nsIn K mainGlobals "_law_turned_bits" = some (some (.ref f6))) (l6 : K.lookup f6 = some ⟨oc6, od6, .func (PySem.W.fnOf "_law_turned_bits" "_law_turned_bits" (C8.fnArgs s__law_turned_bits) (C8.fnBody s__law_turned_bits) (C8.fnScope s__law_turned_bits) .none kV6 dc6 pm6 an6 cd6 ct6), sl6⟩) (b6 : PySem.W.codeIn K cd6 "_law_turned_bits" = true) (k6 : PySem.W.keepIn K (.ref f6) = true)
    {f7 : Addr} {od7 an7 : Option Addr} {sl7 : Array (Option Value)} {oc7 kV7 dc7 pm7 cd7 ct7 : Value} (a7 : PySem.W.nsIn K mainGlobals "_law_crc" = some (some (.ref f7))) (l7 : K.lookup f7 = some ⟨oc7, od7, .func (PySem.W.fnOf "_law_crc" "_law_crc" (C8.fnArgs s__law_crc) (C8.fnBody s__law_crc) (C8.fnScope s__law_crc) .none kV7 dc7 pm7 an7 cd7 ct7), sl7⟩) (b7 : PySem.W.codeIn K cd7 "_law_crc" = true) (k7 : PySem.W.keepIn K (.ref f7) = true)
    {f8 : Addr} {od8 an8 : Option Addr} {sl8 : Array (Option Value)} {oc8 kV8 dc8 pm8 cd8 ct8 : Value} (a8 : PySem.W.nsIn K mainGlobals "law" = some (some (.ref f8))) (l8 : K.lookup f8 = some ⟨oc8, od8, .func (PySem.W.fnOf "law" "law" (C8.fnArgs s_law) (C8.fnBody s_law) (C8.fnScope s_law) .none kV8 dc8 pm8 an8 cd8 ct8), sl8⟩) (b8 : PySem.W.codeIn K cd8 "law" = true) (k8 : PySem.W.keepIn K (.ref f8) = true)
    (z_bool : PySem.W.nsIn K mainGlobals "bool" = some none)
    (z_int : PySem.W.nsIn K mainGlobals "int" = some none)
    (z_isinstance : PySem.W.nsIn K mainGlobals "isinstance" = some none)
    (z_len : PySem.W.nsIn K mainGlobals "len" = some none)
    (z_list : PySem.W.nsIn K mainGlobals "list" = some none)
    (z_min : PySem.W.nsIn K mainGlobals "min" = some none)
    (z_range : PySem.W.nsIn K mainGlobals "range" = some none)
    {t__ALL_BITS : Tok} (q__ALL_BITS : PySem.W.nsIn K mainGlobals "_ALL_BITS" = some (some (.int (4294967295) t__ALL_BITS)))
    {t__POLYNOMIAL : Tok} (q__POLYNOMIAL : PySem.W.nsIn K mainGlobals "_POLYNOMIAL" = some (some (.int (3988292384) t__POLYNOMIAL)))
    : ∃ fd : FuncData, (∀ (s : Shared) (v : Value), BindsTo s fd ⟨[v], []⟩ [("script", v)]) ∧ ∀ base : Heap, K.In base → base.Ns mainGlobals mg → FnOk P w K mg base C8.CX0 3 fa fd ["script"] (sp_law K) := by
  have D__checksum_of_octet : Dn K mg "_checksum_of_octet" s__checksum_of_octet ["octet"] := dn_mk l0 b0 k0 (PySem.W.mg_of X G a0) (fun _ _ _ _ _ _ us hl => match us, hl with | [_], _ => rfl)
  have D_checksum : Dn K mg "checksum" s_checksum ["octets"] := dn_mk l1 b1 k1 (PySem.W.mg_of X G a1) (fun _ _ _ _ _ _ us hl => match us, hl with | [_], _ => rfl)
  have D__law_cell : Dn K mg "_law_cell" s__law_cell ["script", "k"] := dn_mk l2 b2 k2 (PySem.W.mg_of X G a2) (fun _ _ _ _ _ _ us hl => match us, hl with | [_, _], _ => rfl)
  have D__law_state : Dn K mg "_law_state" s__law_state ["cell", "k"] := dn_mk l3 b3 k3 (PySem.W.mg_of X G a3) (fun _ _ _ _ _ _ us hl => match us, hl with | [_, _], _ => rfl)
  have D__law_digit : Dn K mg "_law_digit" s__law_digit ["state", "many"] := dn_mk l4 b4 k4 (PySem.W.mg_of X G a4) (fun _ _ _ _ _ _ us hl => match us, hl with | [_, _], _ => rfl)
  have D__law_is_integer : Dn K mg "_law_is_integer" s__law_is_integer ["told"] := dn_mk l5 b5 k5 (PySem.W.mg_of X G a5) (fun _ _ _ _ _ _ us hl => match us, hl with | [_], _ => rfl)
  have D__law_turned_bits : Dn K mg "_law_turned_bits" s__law_turned_bits ["number"] := dn_mk l6 b6 k6 (PySem.W.mg_of X G a6) (fun _ _ _ _ _ _ us hl => match us, hl with | [_], _ => rfl)
  have D__law_crc : Dn K mg "_law_crc" s__law_crc ["octets"] := dn_mk l7 b7 k7 (PySem.W.mg_of X G a7) (fun _ _ _ _ _ _ us hl => match us, hl with | [_], _ => rfl)
  have y_bool : mg "bool" = none := PySem.W.mg_none_of X G z_bool
  have y_int : mg "int" = none := PySem.W.mg_none_of X G z_int
  have y_isinstance : mg "isinstance" = none := PySem.W.mg_none_of X G z_isinstance
  have y_len : mg "len" = none := PySem.W.mg_none_of X G z_len
  have y_list : mg "list" = none := PySem.W.mg_none_of X G z_list
  have y_min : mg "min" = none := PySem.W.mg_none_of X G z_min
  have y_range : mg "range" = none := PySem.W.mg_none_of X G z_range
  have v__ALL_BITS : ∃ u, mg "_ALL_BITS" = some u ∧ RelV (.int (4294967295)) u := ⟨_, PySem.W.mg_of X G q__ALL_BITS, ⟨_, rfl⟩⟩
  have v__POLYNOMIAL : ∃ u, mg "_POLYNOMIAL" = some u ∧ RelV (.int (3988292384)) u := ⟨_, PySem.W.mg_of X G q__POLYNOMIAL, ⟨_, rfl⟩⟩
  have e := hfa.symm.trans (PySem.W.mg_of X G a8)
  cases e
  have D_law := def_mk (x := "law") (st := s_law) l8 b8 k8 hfa
  refine ⟨PySem.W.fnOf "law" "law" (C8.fnArgs s_law) (C8.fnBody s_law) (C8.fnScope s_law) .none kV8 dc8 pm8 an8 cd8 ct8, fun s v => .of_eq rfl, fun base _ _ => ?_⟩
  have c__checksum_of_octet := ok__checksum_of_octet (P := P) (w := w) (base := base) D__checksum_of_octet y_range v__POLYNOMIAL 
  have c_checksum := ok_checksum (P := P) (w := w) (base := base) D_checksum c__checksum_of_octet y_range v__ALL_BITS 
  have c__law_cell := ok__law_cell (P := P) (w := w) (base := base) D__law_cell y_len 
  have c__law_state := ok__law_state (P := P) (w := w) (base := base) D__law_state y_int 
  have c__law_digit := ok__law_digit (P := P) (w := w) (base := base) D__law_digit y_int 
  have c__law_is_integer := ok__law_is_integer (P := P) (w := w) (base := base) D__law_is_integer y_bool y_int y_isinstance 
  have c__law_turned_bits := ok__law_turned_bits (P := P) (w := w) (base := base) D__law_turned_bits y_int y_range 
  have c__law_crc := ok__law_crc (P := P) (w := w) (base := base) D__law_crc c__law_turned_bits y_int y_range 
  exact ok_law (P := P) (w := w) (base := base) D_law c__law_cell c__law_crc c__law_digit c__law_is_integer c__law_state c_checksum y_int y_len y_list y_min y_range 
end My
open PySem PySem.W PyProof.Rows
set_option maxHeartbeats 0 in
theorem PySem.Challenge.cw_stylobate_k48_checksums_holds : PySem.Challenge.rw_stylobate_k48_checksums.Holds := by
  w_on; o_law; k_head; (case hw => w_witness2)
  k_fill
  refine L2.walk_of (l := PySem.Challenge.rw_stylobate_k48_checksums) (n := 63) (k := 3) (x := "script") (CX := fun _ => C8.CX0) (sp := fun w => My.sp_law _) rfl (by decide) rfl ⟨rfl, by decide, by decide⟩ (fun w h Y => PySem.W.kIn_of Y) ?F (fun _ _ a ns hl _ hS => My.sp_law_of hl hS) (fun _ _ _ _ _ h => h)
  case F =>
    intro w mg fa h KX G hmg
    refine' My.all_mk KX G hmg ?a0 ?l0 ?b0 ?k0 ?a1 ?l1 ?b1 ?k1 ?a2 ?l2 ?b2 ?k2 ?a3 ?l3 ?b3 ?k3 ?a4 ?l4 ?b4 ?k4 ?a5 ?l5 ?b5 ?k5 ?a6 ?l6 ?b6 ?k6 ?a7 ?l7 ?b7 ?k7 ?a8 ?l8 ?b8 ?k8 ?z_bool ?z_int ?z_isinstance ?z_len ?z_list ?z_min ?z_range ?q__ALL_BITS ?q__POLYNOMIAL
    (case a0 => k_is); (case l0 => k_is); (case b0 => k_is); (case k0 => k_is); (case a1 => k_is); (case l1 => k_is); (case b1 => k_is); (case k1 => k_is); (case a2 => k_is); (case l2 => k_is); (case b2 => k_is); (case k2 => k_is); (case a3 => k_is); (case l3 => k_is); (case b3 => k_is); (case k3 => k_is); (case a4 => k_is); (case l4 => k_is); (case b4 => k_is); (case k4 => k_is); (case a5 => k_is); (case l5 => k_is); (case b5 => k_is); (case k5 => k_is); (case a6 => k_is); (case l6 => k_is); (case b6 => k_is); (case k6 => k_is); (case a7 => k_is); (case l7 => k_is); (case b7 => k_is); (case k7 => k_is); (case a8 => k_is); (case l8 => k_is); (case b8 => k_is); (case k8 => k_is); (case z_bool => k_is); (case z_int => k_is); (case z_isinstance => k_is); (case z_len => k_is); (case z_list => k_is); (case z_min => k_is); (case z_range => k_is); (case q__ALL_BITS => k_is); (case q__POLYNOMIAL => k_is)

