import PyProof.Rows.All
import Wide.All
import OpenK.AllK
import Wide.FinOn
import HandS.ForMost
import HandS.Codes
import HandS.Evl
import HandS.IsInst
import HandS.Wide
import HandS.Dict
import HandS.Iter
import HandS.Text
import HandS.TupLe
import HandS.SortKw
import HandS.StrMore
import HandS.FStr
import HandS.Style
import PyProof.FString
import PyProof.FString4
import PySem.Challenge.RW_stylobate_k04_texts_of_dates
set_option Elab.async false
set_option linter.all false
set_option maxRecDepth 100000
set_option maxHeartbeats 4000000
namespace My
open PySem PySem.Spec PyProof.Rows L2 Evl
/-! ### defs of the text, promises, the end -/
def Dn (K : PySem.W.Frag) (mg : Str → Option Value) (x : Str) (st : Stmt) (ps : List Str) : Prop := ∃ f fd, C8.Def K mg x st f fd ∧ Binds K fd ps []
section
variable {P : Program} {w : World} {K : PySem.W.Frag} {mg : Str → Option Value} {base : Heap}
theorem cal_of {x : Str} {st : Stmt} {N ps : List Str} {k : Nat} {sp : Sp} (D : Dn K mg x st ps) (S : FnScope N ps (C8.fnScope st)) (len : ∀ vs H Q E, sp vs H Q E → vs.length = ps.length)
    (hbody : ∀ (f : Addr) (cdv : Value) (A : Around) (outer : List Env) (s : Shared) (H : Hp) (vs : List V) (Q : VK) (E : XK), Room k (A.deeper (envOfC x (C8.fnScope st) s.heap.objs.size f cdv)) → sp vs H Q E →
      ∃ t, PSs (cxOf C8.CX0 P w K mg base N x (C8.fnScope st) f cdv A outer s H E).nox (C8.fnBody st) t ∧ t { nx := fun _ H' => Q .non H', rt := Q } (start N vs) H) : C8.Cal P w K mg base (k + 1) x sp [] := by
  obtain ⟨f, fd, F, b⟩ := D
  exact C8.cal0 F b .nil S len (hbody f)
theorem def_mk {x : Str} {st : Stmt} {f : Addr} {oc : Value} {od an : Option Addr} {osl : Array (Option Value)} {kV doc pm cdv ct : Value}
    (l : K.lookup f = some ⟨oc, od, .func (PySem.W.fnOf x x (C8.fnArgs st) (C8.fnBody st) (C8.fnScope st) .none kV doc pm an cdv ct), osl⟩)
    (c : PySem.W.codeIn K cdv x = true) (k : PySem.W.keepIn K (.ref f) = true) (m : mg x = some (.ref f)) : C8.Def K mg x st f (PySem.W.fnOf x x (C8.fnArgs st) (C8.fnBody st) (C8.fnScope st) .none kV doc pm an cdv ct) :=
  ⟨⟨oc, od, .none, kV, doc, pm, an, cdv, ct, osl, rfl, l, c⟩, m, k⟩
theorem dn_mk {x : Str} {st : Stmt} {f : Addr} {oc : Value} {od an : Option Addr} {osl : Array (Option Value)} {kV doc pm cdv ct : Value} {ps : List Str}
    (l : K.lookup f = some ⟨oc, od, .func (PySem.W.fnOf x x (C8.fnArgs st) (C8.fnBody st) (C8.fnScope st) .none kV doc pm an cdv ct), osl⟩)
    (c : PySem.W.codeIn K cdv x = true) (k : PySem.W.keepIn K (.ref f) = true) (m : mg x = some (.ref f))
    (h : ∀ (kV doc pm : Value) (an : Option Addr) (cdv ct : Value) (us : List Value), us.length = ps.length → bindArgs (PySem.W.fnOf x x (C8.fnArgs st) (C8.fnBody st) (C8.fnScope st) .none kV doc pm an cdv ct) ⟨us, []⟩ = pure (ps.zip us)) : Dn K mg x st ps :=
  ⟨f, _, def_mk l c k m, C8.Fun.binds (def_mk l c k m).fn rfl h⟩
end
/-! ### x is True, x is False, of any value -/
def rIsT : R2 := fun x y H Q => ∃ b : Bool, y = .bl b ∧ Q (.bl (decide (x = .bl b))) H
def rNotT : R2 := fun x y H Q => ∃ b : Bool, y = .bl b ∧ Q (.bl (!decide (x = .bl b))) H
section
variable {X : Cx}
theorem rel_bl {x : V} {v : Value} {b : Bool} (rx : RelV x v) : PySem.plainIs v (.bool b) = true ∧ (v == .bool b) = decide (x = .bl b) ∨ ∃ n, v = .builtin n := by
  cases x with
  | non => cases (show v = Value.none from rx); exact .inl ⟨rfl, rfl⟩
  | bl c => cases (show v = Value.bool c from rx); exact .inl ⟨rfl, by cases b <;> cases c <;> rfl⟩
  | int i => obtain ⟨t, e⟩ := (show ∃ t, v = Value.int i t from rx); cases e; exact .inl ⟨rfl, rfl⟩
  | str i => obtain ⟨t, e⟩ := (show ∃ t, v = Value.str i t from rx); cases e; exact .inl ⟨rfl, rfl⟩
  | byt i => obtain ⟨t, e⟩ := (show ∃ t, v = Value.bytes i t from rx); cases e; exact .inl ⟨rfl, rfl⟩
  | flt i => obtain ⟨t, e⟩ := (show ∃ t, v = Value.float i t from rx); cases e; exact .inl ⟨rfl, rfl⟩
  | ref a => cases (show v = Value.ref a from rx); exact .inl ⟨rfl, rfl⟩
  | ty n => cases (show v = Value.type n from rx); exact .inl ⟨rfl, rfl⟩
theorem rel_bl' {x : V} {v : Value} {b : Bool} (rx : RelV x v) : PySem.plainIs v (.bool b) = true ∧ (v == .bool b) = decide (x = .bl b) := by
  rcases rel_bl (b := b) rx with h | ⟨n, rfl⟩
  · exact h
  · cases x <;> first | exact nomatch (rx : Value.builtin n = _) | (obtain ⟨t, e⟩ := rx; exact nomatch e)
theorem op_isTF : OpR X (compareOp .Is) rIsT := by
  intro pins s σ H x y v u Q I rx ry h
  obtain ⟨b, rfl, q⟩ := h
  cases (show u = Value.bool b from ry)
  obtain ⟨h1, h2⟩ := rel_bl' (b := b) rx
  exact wpAny_is_plain h1 ⟨.bl _, H, I, rfl, by rw [h2]; exact q⟩
theorem op_notTF : OpR X (compareOp .IsNot) rNotT := by
  intro pins s σ H x y v u Q I rx ry h
  obtain ⟨b, rfl, q⟩ := h
  cases (show u = Value.bool b from ry)
  obtain ⟨h1, h2⟩ := rel_bl' (b := b) rx
  exact wpAny_isNot_plain h1 ⟨.bl _, H, I, rfl, by rw [h2]; exact q⟩
end
/-! ### what evaluates to what: further -/
section
variable {K : PySem.W.Frag} {σ : L2.St} {H H' : Hp} {ta tb te tx : TE} {t u : TT} {x y z v : V} {r : R2}
theorem rv_isT {b : Bool} : RV rIsT x (.bl b) H (.bl (decide (x = .bl b))) := fun H1 _ _ q => ⟨b, rfl, q H1 (Ex.refl H1)⟩
theorem rv_notT {b : Bool} : RV rNotT x (.bl b) H (.bl (!decide (x = .bl b))) := fun H1 _ _ q => ⟨b, rfl, q H1 (Ex.refl H1)⟩
theorem rv_isN : RV (fun x y H Q => y = .non ∧ Q (.bl (decide (x = .non))) H) x .non H (.bl (decide (x = .non))) := fun H1 _ _ q => ⟨rfl, q H1 (Ex.refl H1)⟩
theorem rv_notN : RV (fun x y H Q => y = .non ∧ Q (.bl (!decide (x = .non))) H) x .non H (.bl (!decide (x = .non))) := fun H1 _ _ q => ⟨rfl, q H1 (Ex.refl H1)⟩
theorem ev_int {i : Int} (h : Ev ta σ H (.int i)) : Ev (tCB (fun xs H Q => (∃ i, xs = [.int i] ∧ Q (.int i) H) ∨ ∃ k, xs = [.bl k] ∧ Q (.int (if k then 1 else 0)) H) (tCons ta tNil)) σ H (.int i) :=
  fun H1 e Q q => h H1 e _ fun H2 e2 => .inl ⟨i, rfl, q H2 e2⟩
theorem ev_intB {b : Bool} (h : Ev ta σ H (.bl b)) : Ev (tCB (fun xs H Q => (∃ i, xs = [.int i] ∧ Q (.int i) H) ∨ ∃ k, xs = [.bl k] ∧ Q (.int (if k then 1 else 0)) H) (tCons ta tNil)) σ H (.int (if b then 1 else 0)) :=
  fun H1 e Q q => h H1 e _ fun H2 e2 => .inr ⟨b, rfl, q H2 e2⟩
theorem ev_abs {i : Int} (h : Ev ta σ H (.int i)) : Ev (tCB (fun xs H Q => ∃ i, xs = [.int i] ∧ Q (.int (if i < 0 then -i else i)) H) (tCons ta tNil)) σ H (.int (if i < 0 then -i else i)) :=
  fun H1 e Q q => h H1 e _ fun H2 e2 => ⟨i, rfl, q H2 e2⟩
theorem ev_min2 {i j : Int} (ha : Ev ta σ H (.int i)) (hb : Ev tb σ H (.int j)) : Ev (tCB (fun xs H Q => ∃ i j, xs = [.int i, .int j] ∧ Q (.int (if j < i then j else i)) H) (tCons ta (tCons tb tNil))) σ H (.int (if j < i then j else i)) := fun H1 e Q q =>
  ha H1 e _ fun H2 e2 => hb H2 (e.trans e2) _ fun H3 e3 => ⟨i, j, rfl, q H3 (e2.trans e3)⟩
theorem ev_lenS {s : Str} (h : Ev ta σ H (.str s)) (hz : s.length ≤ 100000) : Ev (tCB (fun xs H Q => ∃ z, xs = [.str z] ∧ z.length ≤ sizeLine ∧ Q (.int z.length) H) (tCons ta tNil)) σ H (.int s.length) :=
  fun H1 e Q q => h H1 e _ fun H2 e2 => ⟨s, rfl, sz_of hz, q H2 e2⟩
/-- isinstance(x, T) of a plain value -/
def tyOf : V → String
  | .non => "NoneType"
  | .bl _ => "bool"
  | .int _ => "int"
  | .str _ => "str"
  | .byt _ => "bytes"
  | .flt _ => "float"
  | _ => "?"
def isTy (x : V) (T : String) : Bool := ((kitB (tyOf x) T).getD false)
theorem ev_isi {T : String} {tn : String} {b : Bool} (ha : Ev ta σ H x) (ht : ∀ H1, TyX K H1 x (.type tn)) (hk : kitB tn T = some b) : Ev (tCB (rIsi K) (tCons ta (tCons (tC (.ty T)) tNil))) σ H (.bl b) :=
  fun H1 e Q q => ha H1 e _ fun H2 e2 => ⟨x, .ty T, .type tn, .type T, b, rfl, .ty T, ht H2, kit_ty hk, q H2 e2⟩
theorem tx_int (i : Int) (H1 : Hp) : TyX K H1 (.int i) (.type "int") := .base (.int i)
theorem tx_bl (i : Bool) (H1 : Hp) : TyX K H1 (.bl i) (.type "bool") := .base (.bl i)
theorem tx_str (i : Str) (H1 : Hp) : TyX K H1 (.str i) (.type "str") := .base (.str i)
theorem tx_non (H1 : Hp) : TyX K H1 .non (.type "NoneType") := .base .non
section
variable {D : Ends} {tz : TS}
/-- if c: x = e, an int: told by the value x has behind it -/
theorem q_ifI {b : Bool} {i : Nat} {p q : Int} (h : EvT t σ H b) (h1 : b = true → Ev te σ H (.int p)) (h0 : σ[i]? = some (some (.int q))) (k : ∀ H1, Ex H H1 → tz D (σ.set i (some (.int (if b = true then p else q)))) H1) : tSeq (tIfS t (tAsg te (gName i)) tNext) tz D σ H := by
  refine q_ifAsg h (fun hb => ?_) (fun hb => ?_) k
  · rw [if_pos hb]
    exact h1 hb
  · rw [hb]
    show σ.set i (some (V.int q)) = σ
    apply List.ext_getElem?
    intro j
    rw [List.getElem?_set]
    split
    · rename_i e
      subst e
      rw [h0]
      have := (List.getElem?_eq_some_iff.mp h0).1
      rw [if_pos this]
    · rfl
end
/-- a promise of one value, all else as it was -/
theorem spv {sp : Sp} {vs : List V} (h : ∀ H1, Ex H H1 → ∀ Q : VK, (∀ H2, Ex H1 H2 → Q z H2) → ∀ E : XK, sp vs H1 Q E) : SpV sp vs H z := h
end
local macro_rules | `(tactic| walk_at "side") => `(tactic| first
  | exact .inr ⟨by decide, by decide⟩
  | exact .inl ⟨by decide, by decide⟩
  | exact .inl ⟨by omega, by omega⟩
  | exact .inr ⟨by omega, by omega⟩
  | exact ⟨by decide, by decide⟩
  | exact ⟨by omega, by omega⟩
  | decide
  | (show (_ : Int) < _; omega)
  | omega)
local macro_rules | `(tactic| walk_at "rv") => `(tactic| first
  | exact rv_I0
  | ((refine' rv_I ?k1); (case k1 => walk_at "side"))
  | exact rv_isT
  | exact rv_notT
  | exact rv_isN
  | exact rv_notN
  | exact rv_eq rfl
  | exact rv_ne rfl)
local macro_rules | `(tactic| walk_at "sq") => `(tactic| first | assumption | exact ex_l (by assumption) (by assumption) | exact sq_of (by assumption))
/-- what a part gives, read off its form -/
local macro_rules | `(tactic| walk_at "ev") => `(tactic| first
  | exact ev_var rfl
  | exact ev_c
  | ((with_reducible refine' ev_op ?k1 ?k2 ?k3); (case k1 => walk_at "ev"); (case k2 => walk_at "ev"); (case k3 => walk_at "rv"))
  | ((with_reducible refine' ev_un ?k1 ?k2); (case k1 => walk_at "ev"); (case k2 => exact ru_neg))
  | ((with_reducible refine' ev_int ?k1); (case k1 => walk_at "ev"))
  | ((with_reducible refine' ev_abs ?k1); (case k1 => walk_at "ev"))
  | ((with_reducible refine' ev_andV ?k1 ?k2); (case k1 => walk_at "ev"); (case k2 => intro _; walk_at "ev"))
  | ((with_reducible refine' ev_orV ?k1 ?k2); (case k1 => walk_at "ev"); (case k2 => intro _; walk_at "ev"))
  | ((with_reducible refine' ev_notV ?k1); (case k1 => walk_at "ev"))
  | ((refine' ev_len ?k1 ?k2); (case k1 => walk_at "ev"); (case k2 => walk_at "sq")))
local macro_rules | `(tactic| walk_at "et") => `(tactic| first
  | ((with_reducible refine' et_or ?k1 ?k2); (case k1 => walk_at "et"); (case k2 => intro _; walk_at "et"))
  | ((with_reducible refine' et_and ?k1 ?k2); (case k1 => walk_at "et"); (case k2 => intro _; walk_at "et"))
  | ((with_reducible refine' et_not ?k1); (case k1 => walk_at "et"))
  | (refine' et_test ?k1; (case k1 => walk_at "ev"))
  | (refine' et_B ?k1; (case k1 => walk_at "ev")))

/-! ### tuples made, tuples read, data compared -/
def SpU (sp : Sp) (vs : List V) (H : Hp) (xs : List V) : Prop := ∀ H1, Ex H H1 → ∀ Q : VK, (∀ p H2, H1 p = none → Ex H1 H2 → H2 p = some (.tup xs) → Q (.ref p) H2) → ∀ E : XK, sp vs H1 Q E
section
variable {K : PySem.W.Frag} {σ : L2.St} {H H' : Hp} {ta tb te : TE} {x y z v : V}
theorem eu_call {sp : Sp} {dvs vs xs : List V} {E : XK} {ta : TA} (h : EvA ta σ H vs) (hs : SpU sp (vs ++ dvs) H xs) : EvU (tCall sp dvs E ta) σ H xs := fun H1 e Q q =>
  h H1 e _ fun H2 e2 => hs H2 (e.trans e2) Q (fun p H3 hp e3 h3 => q p H3 (fresh_back e2 hp) (e2.trans e3) h3) E
theorem ev_lenT {p : Addr} {xs : List V} (ha : Ev ta σ H (.ref p)) (h : SqT K H p xs) : Ev (tCB (fun xs H Q => ∃ p ys, xs = [.ref p] ∧ (SqL K H p ys ∨ SqT K H p ys) ∧ Q (.int ys.length) H) (tCons ta tNil)) σ H (.int (xs.length : Int)) := fun H1 e Q q =>
  ha H1 e _ fun H2 e2 => ⟨p, xs, rfl, Or.inr (ex_t (e.trans e2) h), q H2 e2⟩
theorem eu_divmod {i j : Int} (ha : Ev ta σ H (.int i)) (hb : Ev tb σ H (.int j)) (hc : CDiv i j) :
    EvU (tCB (fun xs H Q => ∃ i j, xs = [.int i, .int j] ∧ CDiv i j ∧ ∀ p, H p = none → Q (.ref p) (upd H p (.tup [.int (i / j), .int (i % j)]))) (tCons ta (tCons tb tNil))) σ H [.int (i / j), .int (i % j)] := fun H1 e Q q =>
  ha H1 e _ fun H2 e2 => hb H2 (e.trans e2) _ fun H3 e3 => ⟨i, j, rfl, hc, fun p hp => q p _ (fresh_back (e2.trans e3) hp) ((e2.trans e3).trans (Ex.new hp)) upd_same⟩
theorem dp_ints : ∀ ns : List Int, DpAll K H (ns.map V.int) (ns.map PyData.int)
  | [] => .nil
  | n :: r => .cons (.int n) (dp_ints r)
theorem eqv_ints : ∀ ns ms : List Int, PyData.eqv (.tuple (ns.map PyData.int)) (.tuple (ms.map PyData.int)) = decide (ns = ms)
  | [], [] => rfl
  | [], _ :: _ => rfl
  | _ :: _, [] => rfl
  | n :: r, m :: t => by
    have ih := eqv_ints r t
    show ((n == m) && PyData.eqv (.tuple (r.map PyData.int)) (.tuple (t.map PyData.int))) = _
    rw [ih, Bool.eq_iff_iff, Bool.and_eq_true, decide_eq_true_eq, decide_eq_true_eq, beq_iff_eq, List.cons.injEq]
theorem dp_tup {p : Addr} {ns : List Int} (h : SqT K H p (ns.map V.int)) : Dp K H (.ref p) (.tuple (ns.map PyData.int)) := .tup h (dp_ints ns)
def shI (n : Nat) : Bool := SeqAt.shaped (.tuple ((List.replicate n 0).map PyData.int))
theorem rv_neT {p q : Addr} {ns ms : List Int} (hp : SqT K H p (ns.map V.int)) (hq : SqT K H q (ms.map V.int)) (s1 : SeqAt.shaped (.tuple (ns.map PyData.int)) = true) (s2 : SeqAt.shaped (.tuple (ms.map PyData.int)) = true) : RV (rNeD K) (.ref p) (.ref q) H (.bl (!decide (ns = ms))) := fun H1 e Q k =>
  ⟨_, _, dp_tup (ex_t e hp), dp_tup (ex_t e hq), s1, s2, by rw [eqv_ints]; exact k H1 (Ex.refl H1)⟩
theorem tx_tup {a : Addr} {xs : List V} (h : H a = some (.tup xs)) : ∀ H1, Ex H H1 → TyX K H1 (.ref a) (.type "tuple") := fun H1 e => .base (.tup (e _ _ h))
theorem ev_isi' {T : String} {tn : String} {b : Bool} (ha : Ev ta σ H x) (ht : ∀ H1, Ex H H1 → TyX K H1 x (.type tn)) (hk : kitB tn T = some b) : Ev (tCB (rIsi K) (tCons ta (tCons (tC (.ty T)) tNil))) σ H (.bl b) :=
  fun H1 e Q q => ha H1 e _ fun H2 e2 => ⟨x, .ty T, .type tn, .type T, b, rfl, .ty T, ht H2 (e.trans e2), kit_ty hk, q H2 e2⟩
theorem ev_chain {r r' : R2} {tc : TE} {b c : Bool} (ha : Ev ta σ H x) (hb : Ev tb σ H y) (hr : RV r x y H (.bl b)) (hc : b = true → Ev tc σ H z) (hr' : b = true → RV r' y z H (.bl c)) : Ev (tChain r r' ta tb tc) σ H (.bl (b && c)) := fun H1 e Q q =>
  ha H1 e _ fun H2 e2 => hb H2 (e.trans e2) _ fun H3 e3 => hr H3 ((e.trans e2).trans e3) _ fun H4 e4 => ⟨b, rfl, by
    cases b with
    | true =>
      show tc σ H4 fun w' H5 => r' y w' H5 Q
      exact hc rfl H4 (((e.trans e2).trans e3).trans e4) _ fun H5 e5 => hr' rfl H5 ((((e.trans e2).trans e3).trans e4).trans e5) Q fun H6 e6 => q H6 ((((e2.trans e3).trans e4).trans e5).trans e6)
    | false =>
      show Q (.bl false) H4
      exact q H4 ((e2.trans e3).trans e4)⟩
/-- a, b = (..): a new tuple unpacked into names -/
theorem gt2 {p : Addr} {i j : Nat} (h : SqT K H p [x, y]) {Q : L2.St → Hp → Prop} (k : Q ((σ.set i (some x)).set j (some y)) H) : gTup K 2 (gCons (gName i) (gCons (gName j) gNil)) (.ref p) σ H Q :=
  ⟨p, [x, y], rfl, h, rfl, x, [y], rfl, y, [], rfl, rfl, k⟩
theorem gt3 {p : Addr} {i j l : Nat} (h : SqT K H p [x, y, z]) {Q : L2.St → Hp → Prop} (k : Q (((σ.set i (some x)).set j (some y)).set l (some z)) H) : gTup K 3 (gCons (gName i) (gCons (gName j) (gCons (gName l) gNil))) (.ref p) σ H Q :=
  ⟨p, [x, y, z], rfl, h, rfl, x, [y, z], rfl, y, [z], rfl, z, [], rfl, rfl, k⟩
end
theorem hu64 {A : Around} {k : Nat} (hr : Room k A) : A.units + 64 < cLine := by
  have := hr.un
  omega
section
variable {K : PySem.W.Frag} {σ : L2.St} {H : Hp} {te : TE} {D : Ends} {tz : TS} {g : TG} {xs : List V}
theorem q_asgG (h : EvU te σ H xs) (k : ∀ p H1, H p = none → Ex H H1 → H1 p = some (.tup xs) → g (.ref p) σ H1 (tz D)) : tSeq (tAsg te g) tz D σ H := h H (Ex.refl H) _ fun p H1 hp e h1 => k p H1 hp e h1
theorem q_asgV {v : V} (h : Ev te σ H v) (k : ∀ H1, Ex H H1 → g v σ H1 (tz D)) : tSeq (tAsg te g) tz D σ H := h H (Ex.refl H) _ fun H1 e => k H1 e
end
/-! ### plain values and their types -/
inductive Pl : V → Prop where
  | non : Pl .non
  | bl (b : Bool) : Pl (.bl b)
  | int (i : Int) : Pl (.int i)
  | str (s : Str) : Pl (.str s)
def tyN : V → String
  | .bl _ => "bool"
  | .int _ => "int"
  | .str _ => "str"
  | _ => "NoneType"
def isInt : V → Bool
  | .int _ => true
  | _ => false
theorem tx_pl {K : PySem.W.Frag} {x : V} (h : Pl x) (H1 : Hp) : TyX K H1 x (.type (tyN x)) := by
  cases h with
  | non => exact .base .non
  | bl b => exact .base (.bl b)
  | int i => exact .base (.int i)
  | str s => exact .base (.str s)
theorem ev_isiP {K : PySem.W.Frag} {σ : L2.St} {H : Hp} {ta : TE} {x : V} {T : String} {b : Bool} (ha : Ev ta σ H x) (hx : Pl x) (hk : kitB (tyN x) T = some b) : Ev (tCB (rIsi K) (tCons ta (tCons (tC (.ty T)) tNil))) σ H (.bl b) :=
  ev_isi ha (tx_pl hx) hk
/-- isinstance(x, int) and not isinstance(x, bool) -/
theorem ev_isInt {K : PySem.W.Frag} {σ : L2.St} {H : Hp} {ta tb : TE} {x : V} (ha : Ev ta σ H x) (hb : Ev tb σ H x) (hx : Pl x) :
    Ev (tAndV (tCB (rIsi K) (tCons ta (tCons (tC (.ty "int")) tNil))) (tNotV (tCB (rIsi K) (tCons tb (tCons (tC (.ty "bool")) tNil))))) σ H (.bl (isInt x)) := by
  cases hx with
  | non => exact ev_is (ev_andV (ev_isiP (b := false) ha .non (by decide +kernel)) fun z => nomatch z) (show V.bl (false && true) = _ from rfl)
  | bl b => exact ev_is (ev_andV (ev_isiP (b := true) ha (.bl b) (by show kitB "bool" "int" = some true; decide +kernel)) fun _ => ev_notV (ev_isiP (b := true) hb (.bl b) (by show kitB "bool" "bool" = some true; decide +kernel))) rfl
  | int i => exact ev_is (ev_andV (ev_isiP (b := true) ha (.int i) (by show kitB "int" "int" = some true; decide +kernel)) fun _ => ev_notV (ev_isiP (b := false) hb (.int i) (by show kitB "int" "bool" = some false; decide +kernel))) rfl
  | str s => exact ev_is (ev_andV (ev_isiP (b := false) ha (.str s) (by show kitB "str" "int" = some false; decide +kernel)) fun z => nomatch z) (show V.bl (false && true) = _ from rfl)

/-! ### lists made by a comprehension over a range, lists joined -/
theorem ix_listK {X : Cx} {K : PySem.W.Frag} (h : X.K = K) : IxR X (rIxL K) := h ▸ ix_list
theorem ix_tupK {X : Cx} {K : PySem.W.Frag} (h : X.K = K) : IxR X (rIxT K) := h ▸ ix_tup
section
variable {K : PySem.W.Frag} {σ : L2.St} {H : Hp} {ta tb te : TE} {x y z v : V}
theorem el_lcR2 {tr : TA} {j : Nat} {vs : List Nat} {lo n : Int} (f : Nat → V) (h : EvA tr σ H [.int lo, .int n]) (hb : 0 ≤ lo ∧ lo ≤ n ∧ n ≤ 40000) (hw : ∀ x, wipe ((wipe σ vs).set j (some x)) vs = wipe σ vs)
    (he : ∀ (i : Nat) H1, Ex H H1 → lo + (i : Int) < n → Ev te ((wipe σ vs).set j (some (.int (lo + (i : Int))))) H1 (f i)) : EvL (tLc (iRng2 tr) (gName j) tYes te vs) σ H ((List.range (n - lo).toNat).map f) := fun H0 e Q q => h H0 e _ fun H1 e1 =>
  ⟨lo, n, rfl, ⟨by omega, by omega, by omega, by omega⟩, fun D hD =>
    lc_range (lo := lo) (n := (n - lo).toNat) (fun i H' => H1 D = none ∧ Ex H1 H' ∧ H' D = some (.lst ((List.range i).map f))) ⟨hD, Ex.new hD, upd_same⟩
      (fun i H' hi p => by
        obtain ⟨p1, p2, p3⟩ := p
        refine ⟨hw _, ?_⟩
        show te ((wipe σ vs).set j (some (.int (lo + (i : Int))))) H' fun y H4 => ∃ acc, H4 D = some (.lst acc) ∧ acc.length < sizeLine ∧ _
        refine he i H1 (e.trans e1) (by omega) H' p2 _ fun H4 e4 => ⟨_, e4 _ _ p3, sz_lt ?_, p1, Ex.mut (p2.trans e4) p1, ?_⟩
        · rw [List.length_map, List.length_range]; omega
        · rw [List.range_succ, List.map_append]
          exact upd_same)
      (fun H' p => q D H' (fresh_back e1 p.1) (e1.trans p.2.1) p.2.2)⟩
theorem el_cat {l b : Addr} {xs ys : List V} (ha : Ev ta σ H (.ref l)) (hb : Ev tb σ H (.ref b)) (h1 : H l = some (.lst xs)) (h2 : H b = some (.lst ys)) (hz : xs.length + ys.length ≤ 100000) : EvL (tOp rCat ta tb) σ H (xs ++ ys) := fun H1 e Q q =>
  ha H1 e _ fun H2 e2 => hb H2 (e.trans e2) _ fun H3 e3 => ⟨l, b, xs, ys, rfl, rfl, ((e.trans e2).trans e3) _ _ h1, ((e.trans e2).trans e3) _ _ h2, sz_of hz, fun p hp => q p _ (fresh_back (e2.trans e3) hp) ((e2.trans e3).trans (Ex.new hp)) upd_same⟩
/-- (a new list, a new list) -/
theorem q_two {i : Nat} {xs ys : List V} {D : Ends} {tz : TS} (ha : EvL ta σ H xs) (hb : EvL tb σ H ys) (k : ∀ p q r H1, Ex H H1 → H1 p = some (.lst xs) → H1 q = some (.lst ys) → H1 r = some (.tup [.ref p, .ref q]) → tz D (σ.set i (some (.ref r))) H1) :
    tSeq (tAsg (tTup (tCons ta (tCons tb tNil))) (gName i)) tz D σ H :=
  ha H (Ex.refl H) _ fun p H1 hp e1 h1 => hb H1 e1 _ fun q H2 hq e2 h2 => ⟨by show 2 ≤ sizeLine; decide, fun r hr => k p q r _ ((e1.trans e2).trans (Ex.new hr)) (Ex.new hr _ _ (e2 _ _ h1)) (Ex.new hr _ _ h2) upd_same⟩
end

/-! ### {n:04d}, {n:02d}: an int that isn't negative, zeros ahead -/
section
open PySem.Builtin
/-- the digits of a small number, zeros ahead of them up to W -/
def zdig (W : Nat) (n : Nat) : List Nat := List.replicate (W - (Nat.toDigits 10 n).length) 48 ++ (Nat.toDigits 10 n).map Char.toNat
def fsp (W : Nat) : Builtin.Float.FormatSpec := { fill := 48, align := 61, width := some W, type := some 100 }
theorem dig_ne (n : Nat) : ((Nat.toDigits 10 n).map Char.toNat).isEmpty = false := by
  have h := tDigits_len_ge 10 n
  cases e : Nat.toDigits 10 n with
  | nil => rw [e] at h; simp at h
  | cons _ _ => rfl
theorem log2_small {n : Nat} (h : n ≤ 1000000) : n.log2 < 1920 := by
  by_cases h0 : n = 0
  · rw [h0]; decide
  · have := (Nat.log2_lt (k := 20) h0).mpr (by omega)
    omega
theorem gives_zd {n W : Nat} {t u : Tok} {sp : Str} (hn : n ≤ 1000000) (hW : W ≤ 1000) (hp : ∀ name : String, Builtin.Float.parseFormatSpec sp.cps.toList name 62 = .ok (fsp W)) (h0 : (sp.length == 0) = false)
    (ha : ((sp.cps.toList.drop 1).any (· ≥ 128) || (sp.cps.getD 0 0 ≥ 128 && !([60, 62, 61, 94] : List Nat).contains (sp.cps.getD 1 0))) = false) :
    Gives (Builtin.«int.__format__» { pos := [Value.int (n : Int) t, Value.str sp u] }) (Made.str ⟨(zdig W n).toArray⟩) := by
  intro prog w A R s hR
  unfold Builtin.«int.__format__»
  simp only [selfAndOne, noKeywords, Builtin.Int.intOfSelf, asInt?, asStr?, List.isEmpty_nil, if_true, pure_bind, bind_pure, bind_assoc, h0, ha, Bool.false_eq_true, if_false,
    show (Value.str sp u == Value.none) = false from rfl]
  refine wpAny_bind (wpAny_typeNameOf (T := "str") (typeIs_str _ _ _) (by decide) fun _ => ?_)
  refine wpAny_bind (wpAny_typeNameOfCut_int ?_)
  simp only [hp]
  rw [if_pos (by rfl)]
  have hw1 : ¬ ((fsp W).width.getD 0 > 100000) := by show ¬ W > 100000; omega
  have key : ∀ S : Str, S = ⟨(zdig W n).toArray⟩ → wpAny (model prog w) A.in1 (retStr S) (fun fin s' =>
      match fin with
      | Fin.done f => R (Except.ok f) s'
      | Fin.again c' => c'.quiet = true ∧ codeAny (model prog w) A c' R s') (fun e s' => R (Except.error e) s') s := by
    intro S e
    subst e
    have hl : (Nat.toDigits 10 n).length ≤ 2000 := by
      have := digits10_le (n := n) (k := 7) (by decide) (by omega)
      omega
    unfold retStr
    refine wpAny_bind (wpAny_mkStr (wpAny_pure ?_) (by
      show (zdig W n).toArray.size ≤ sizeLine
      unfold zdig
      rw [List.size_toArray, List.length_append, List.length_replicate, List.length_map]
      exact Nat.le_trans (show _ ≤ 5000 by omega) (by decide)))
    exact hR.2
  show wpAny _ _ (do let r ← Builtin.overDigitLimit? (n : Int); _) _ _ _
  refine wpAny_bind ?_
  unfold Builtin.overDigitLimit?
  rw [if_pos (by rw [Int.natAbs_natCast]; exact log2_small hn)]
  refine wpAny_pure ?_
  show wpAny _ _ (if _ then _ else _) _ _ _
  rw [if_neg hw1]
  refine key _ ?_
  conv => lhs; whnf
  have e1 : decide ((n : Int) < 0) = false := decide_eq_false (by omega)
  have e2 : (List.map (fun c => (if ((fsp W).type.getD (if (sp.cps.back? == some 0) = true then 0 else 100) == 88) = true then c.toUpper else c).toNat) (Nat.toDigits 10 (n : Int).natAbs)) = (Nat.toDigits 10 n).map Char.toNat := by
    rw [Int.natAbs_natCast]
    apply List.map_congr_left
    intro c _
    rfl
  rw [e1, e2]
  have e3 := dig_ne n
  generalize hd : (Nat.toDigits 10 n).map Char.toNat = ds at *
  have e4 : zdig W n = List.replicate (W - ds.length) 48 ++ ds := by
    unfold zdig
    rw [hd, ← hd, List.length_map]
  rw [e4]
  simp only [fsp, e3, Bool.false_eq_true, if_false, if_true, List.length_nil, List.append_nil, List.nil_append, List.replicate_zero, beq_self_eq_true, Bool.and_self]
  have e5 : ((W : Int) - (((0 : Nat) : Int) + ((0 : Nat) : Int) + ((0 : Nat) : Int))).toNat = W := by omega
  have e6 : ((W : Int) - (((0 : Nat) : Int) + ((0 : Nat) : Int) + ((0 : Nat) : Int)) - (((List.replicate (W - ds.length) 48 ++ ds).length : Nat) : Int)).toNat = 0 := by
    rw [List.length_append, List.length_replicate]
    omega
  rw [e5, e6, List.replicate_zero, List.nil_append]
theorem zd_len (W n : Nat) (hW : W ≤ 1000) (hn : n ≤ 1000000) : (zdig W n).length ≤ 5000 := by
  have := digits10_le (n := n) (k := 7) (by decide) (by omega)
  unfold zdig
  rw [List.length_append, List.length_replicate, List.length_map]
  omega
theorem fmt_zd {prog : Program} {w : World} {A : Around} {E : Value → Shared → Prop} {s : Shared} {n W : Nat} {t : Tok} {sp : Str} {Q : Value → Shared → Prop} (hn : n ≤ 1000000) (hW : W ≤ 1000)
    (hp : ∀ name : String, Builtin.Float.parseFormatSpec sp.cps.toList name 62 = .ok (fsp W)) (h0 : (sp.length == 0) = false)
    (ha : ((sp.cps.toList.drop 1).any (· ≥ 128) || (sp.cps.getD 0 0 ≥ 128 && !([60, 62, 61, 94] : List Nat).contains (sp.cps.getD 1 0))) = false) (hl : sp.length ≤ sizeLine)
    (q : Q (.str ⟨(zdig W n).toArray⟩ (s.toks + 1)) { s with toks := s.toks + 1 + 1 }) : wpAny (model prog w) A (formatField (.int (n : Int) t) sp) Q E s :=
  wpAny_formatField_spec h0 (fun s' => typeIs_int _ _ t) slot_int_format entry_int_format args_int_format (fun u => gives_zd hn hW hp h0 ha) q hl (by
    show (zdig W n).toArray.size ≤ sizeLine
    rw [List.size_toArray]
    exact Nat.le_trans (zd_len W n hW hn) (by decide))
theorem parse_04 (name : String) : Builtin.Float.parseFormatSpec (Str.ofString "04d").cps.toList name 62 = .ok (fsp 4) := by rfl
theorem parse_02 (name : String) : Builtin.Float.parseFormatSpec (Str.ofString "02d").cps.toList name 62 = .ok (fsp 2) := by rfl
end
def tFmtZ (te ts : TE) : TE := fun σ H Q => te σ H fun x H1 => ∃ n : Nat, x = .int (n : Int) ∧ n ≤ 1000000 ∧ ts σ H1 fun y H2 => (y = .str (Str.ofString "04d") ∧ Q (.str (SX.S (zdig 4 n))) H2) ∨ (y = .str (Str.ofString "02d") ∧ Q (.str (SX.S (zdig 2 n))) H2)
theorem pe_fmtZ {X : Cx} {e es : Expr} {te ts : TE} {pos : Pos} (he : PE X e te) (hs : PE X es ts) : PE X (.FormattedValue e (-1) (some es) pos) (tFmtZ te ts) := by
  refine ⟨fun pins s σ H Q I h => ?_⟩
  refine wpAny_FormattedValue_spec (thn (he.run pins s σ H _ I h) fun v s1 hv => ?_)
  obtain ⟨x, H1, I1, r1, n, rfl, hn, q⟩ := hv
  obtain ⟨t, rfl⟩ := r1
  refine thn (hs.run pins s1 σ H1 _ I1 q) fun r s2 hr => ?_
  obtain ⟨y, H2, I2, r2, q⟩ := hr
  rcases q with ⟨rfl, q⟩ | ⟨rfl, q⟩
  · obtain ⟨t2, rfl⟩ := r2
    exact ⟨_, _, rfl, fmt_zd hn (by decide) parse_04 (by rfl) (by rfl) (by decide +kernel) ⟨.str _, H2, I2.tok _, ⟨_, rfl⟩, q⟩⟩
  · obtain ⟨t2, rfl⟩ := r2
    exact ⟨_, _, rfl, fmt_zd hn (by decide) parse_02 (by rfl) (by rfl) (by decide +kernel) ⟨.str _, H2, I2.tok _, ⟨_, rfl⟩, q⟩⟩

def limV (n : Int) : V := if -1000000000000000 ≤ n ∧ n ≤ 1000000000000000 then .int n else .non
namespace Dg
/-! ### the mathematics: digits -/
abbrev dval : List Nat → Nat := NumText.digitsVal
def isD (c : Nat) : Bool := decide (48 ≤ c) && decide (c ≤ 57)
def digs (l : List Nat) : Bool := !l.isEmpty && l.all isD
theorem uni_dig : ∀ c : Fin 128, Unicode.isDigit c.1 = isD c.1 := by decide +kernel
theorem all_dig : ∀ l : List Nat, (l.all Unicode.isDigit && l.all fun c => decide (c < 128)) = l.all isD
  | [] => rfl
  | c :: r => by
    have ih := all_dig r
    rw [List.all_cons, List.all_cons, List.all_cons, ← ih]
    by_cases h : c < 128
    · rw [decide_eq_true h, show Unicode.isDigit c = isD c from uni_dig ⟨c, h⟩]
      cases isD c <;> cases r.all Unicode.isDigit <;> simp
    · have : isD c = false := by
        unfold isD
        rw [decide_eq_false (show ¬ c ≤ 57 by omega), Bool.and_false]
      rw [this, decide_eq_false h]
      simp
theorem digs_txt (l : List Nat) : (Txt.isdigit (SX.S l) && Txt.isascii (SX.S l)) = digs l := by
  unfold Txt.isdigit Txt.isascii digs
  rw [SX.S_len, show (SX.S l).cps.all Unicode.isDigit = l.all Unicode.isDigit from List.all_toArray, show ((SX.S l).cps.all fun c => decide (c < 128)) = l.all fun c => decide (c < 128) from List.all_toArray, Bool.and_assoc, all_dig]
  cases l <;> rfl
theorem mem_dig {l : List Nat} (h : l.all isD = true) : NumText.AllDigits l := fun c hc => by
  have := List.all_eq_true.mp h c hc
  unfold isD at this
  rw [Bool.and_eq_true, decide_eq_true_eq, decide_eq_true_eq] at this
  exact this
theorem fold_app (l : List Nat) : ∀ a : Nat, l.foldl (fun acc c => acc * 10 + (c - 48)) a = a * 10 ^ l.length + dval l := by
  induction l with
  | nil => intro a; simp [dval, NumText.digitsVal]
  | cons c r ih =>
    intro a
    show r.foldl _ (a * 10 + (c - 48)) = _ + r.foldl _ (0 * 10 + (c - 48))
    rw [ih, ih, List.length_cons, Nat.pow_succ, Nat.add_mul, Nat.zero_mul, Nat.zero_add, Nat.mul_assoc, Nat.mul_comm 10, Nat.add_assoc]
theorem dval_app (l r : List Nat) : dval (l ++ r) = dval l * 10 ^ r.length + dval r := by
  show (l ++ r).foldl _ 0 = _
  rw [List.foldl_append, fold_app]
  rfl
theorem dval_cons (c : Nat) (r : List Nat) : dval (c :: r) = (c - 48) * 10 ^ r.length + dval r := by
  have := dval_app [c] r
  rw [show dval [c] = c - 48 from by show 0 * 10 + (c - 48) = _; omega] at this
  exact this
theorem dval_lt : ∀ l : List Nat, l.all isD = true → dval l < 10 ^ l.length
  | [], _ => by decide
  | c :: r, h => by
    rw [List.all_cons, Bool.and_eq_true] at h
    have ih := dval_lt r h.2
    have hc := mem_dig (l := [c]) (by rw [List.all_cons, h.1]; rfl) c (List.mem_singleton.mpr rfl)
    rw [dval_cons, List.length_cons, Nat.pow_succ]
    have : (c - 48) * 10 ^ r.length ≤ 9 * 10 ^ r.length := Nat.mul_le_mul_right _ (by omega)
    omega
def noZ (l : List Nat) : List Nat := l.dropWhile (fun c => c == 48)
theorem dval_noZ : ∀ l : List Nat, dval (noZ l) = dval l
  | [] => rfl
  | c :: r => by
    unfold noZ
    rw [List.dropWhile_cons]
    split
    · rename_i h
      rw [show List.dropWhile (fun c => c == 48) r = noZ r from rfl, dval_noZ r, dval_cons, beq_iff_eq.mp h, Nat.sub_self, Nat.zero_mul, Nat.zero_add]
    · rfl
theorem all_noZ : ∀ {l : List Nat}, l.all isD = true → (noZ l).all isD = true
  | [], _ => rfl
  | c :: r, h => by
    unfold noZ
    rw [List.dropWhile_cons]
    split
    · exact all_noZ (by rw [List.all_cons, Bool.and_eq_true] at h; exact h.2)
    · exact h
theorem noZ_len (l : List Nat) : (noZ l).length ≤ l.length := (List.dropWhile_suffix _).length_le
/-- more than sixteen digits behind the zeros: beyond every limit -/
theorem noZ_big {l : List Nat} (h : l.all isD = true) (hl : 16 < (noZ l).length) : 10 ^ 16 ≤ dval l := by
  have ha := all_noZ h
  rw [← dval_noZ]
  have hd : ∀ c r, noZ l = c :: r → ¬ c = 48 := fun c r e hc => by
    have := List.head?_dropWhile_not (fun c => c == 48) l
    rw [show List.dropWhile (fun c => c == 48) l = c :: r from e] at this
    simp [hc] at this
  generalize noZ l = z at *
  cases z with
  | nil => simp at hl
  | cons c r =>
    have hc := mem_dig (l := [c]) (by rw [List.all_cons, Bool.and_eq_true] at ha; rw [List.all_cons, ha.1]; rfl) c (List.mem_singleton.mpr rfl)
    have hn := hd c r rfl
    rw [dval_cons]
    have h1 : 10 ^ 16 ≤ 10 ^ r.length := Nat.pow_le_pow_right (by decide) (by simp at hl; omega)
    have h2 : 1 * 10 ^ r.length ≤ (c - 48) * 10 ^ r.length := Nat.mul_le_mul_right _ (by omega)
    omega
theorem con48 : (SX.S [48]).cps.contains = fun c => c == 48 := by
  funext c
  show (#[48] : Array Nat).contains c = _
  rw [Bool.eq_iff_iff]
  simp
theorem tl_S (l : List Nat) : TL.tl (SX.S l) = l := TL.tl_mk l
theorem lstrip_S (l : List Nat) : Txt.lstripChars (SX.S l) (SX.S [48]) = SX.S (noZ l) := by
  unfold Txt.lstripChars
  rw [PySem.W.stripBy_eq, con48]
  apply TL.ext_tl
  unfold PySem.W.stripped
  simp only [if_true, Bool.false_eq_true, if_false]
  rw [TL.tl_strSub, TL.len_tl, tl_S, tl_S]
  show List.take _ (List.drop (List.takeWhile (fun c => c == 48) l).length l) = _
  have e : List.drop (List.takeWhile (fun c => c == 48) l).length l = noZ l := by
    have h := List.takeWhile_append_dropWhile (p := fun c => c == 48) (l := l)
    conv => lhs; arg 2; rw [← h]
    rw [List.drop_left]
    rfl
  rw [e]
  apply List.take_of_length_le
  have h := congrArg List.length (List.takeWhile_append_dropWhile (p := fun c => c == 48) (l := l))
  rw [List.length_append] at h
  have : (noZ l).length = (List.dropWhile (fun c => c == 48) l).length := rfl
  omega
/-- without zeros at the end -/
def noE (l : List Nat) : List Nat := (noZ l.reverse).reverse
theorem rstrip_S (l : List Nat) : Txt.rstripChars (SX.S l) (SX.S [48]) = SX.S (noE l) := by
  unfold Txt.rstripChars
  rw [PySem.W.stripBy_eq, con48]
  apply TL.ext_tl
  unfold PySem.W.stripped
  simp only [if_true, Bool.false_eq_true, if_false]
  rw [TL.tl_strSub, SX.S_len, tl_S, tl_S]
  show List.take (l.length - (List.takeWhile (fun c => c == 48) (List.drop 0 l).reverse).length - 0) (List.drop 0 l) = _
  rw [List.drop_zero, Nat.sub_zero]
  have h := List.takeWhile_append_dropWhile (p := fun c => c == 48) (l := l.reverse)
  have h2 : l = noE l ++ (List.takeWhile (fun c => c == 48) l.reverse).reverse := by
    have := congrArg List.reverse h
    rw [List.reverse_append, List.reverse_reverse] at this
    exact this.symm
  have h3 := congrArg List.length h2
  rw [List.length_append, List.length_reverse] at h3
  conv => lhs; arg 2; rw [h2]
  rw [show l.length - (List.takeWhile (fun c => c == 48) l.reverse).length = (noE l).length by omega, List.take_left]
theorem starts_S (l : List Nat) : Txt.startswith (SX.S l) (SX.S [45]) = decide (l.head? = some 45) := by
  cases l with
  | nil => rfl
  | cons c r =>
    unfold Txt.startswith
    rw [SX.S_len, SX.S_len, decide_eq_true (by simp), Bool.true_and]
    rw [Bool.eq_iff_iff, decide_eq_true_eq]
    show Builtin.Str.subAt (SX.S (c :: r)) (SX.S [45]) 0 = true ↔ some c = some 45
    unfold Builtin.Str.subAt
    simp
    show List.take 1 (c :: r) = [45] ↔ c = 45
    simp
/-- the text without a minus sign in front -/
def noM (l : List Nat) : List Nat := if l.head? = some 45 then l.drop 1 else l
def sgI (l : List Nat) (n : Nat) : Int := if l.head? = some 45 then -(n : Int) else (n : Int)
def rdI (l : List Nat) : V := if digs (noM l) = true then limV (sgI l (dval (noM l))) else .non
theorem numL_pad {r : Nat} (h : r < 10000) : List.replicate (4 - (TL.numL r).length) 48 ++ TL.numL r = [48 + r / 1000, 48 + r / 100 % 10, 48 + r / 10 % 10, 48 + r % 10] := by
  by_cases h1 : r < 10
  · rw [TL.numL_lt h1, show r / 1000 = 0 by omega, show r / 100 = 0 by omega, show r / 10 = 0 by omega, show r % 10 = r by omega]
    rfl
  by_cases h2 : r < 100
  · rw [TL.numL_step (by omega), TL.numL_lt (by omega), show r / 1000 = 0 by omega, show r / 100 = 0 by omega, show r / 10 % 10 = r / 10 by omega]
    rfl
  by_cases h3 : r < 1000
  · rw [TL.numL_step (by omega), TL.numL_step (by omega), TL.numL_lt (by omega), show r / 1000 = 0 by omega, show r / 10 / 10 = r / 100 by omega, show r / 100 % 10 = r / 100 by omega]
    rfl
  · rw [TL.numL_step (by omega), TL.numL_step (by omega), TL.numL_step (by omega), TL.numL_lt (by omega), show r / 10 / 10 / 10 = r / 1000 by omega, show r / 10 / 10 = r / 100 by omega]
    rfl
def four (r : Nat) : List Nat := [48 + r / 1000, 48 + r / 100 % 10, 48 + r / 10 % 10, 48 + r % 10]
theorem zfill_S {r : Nat} (h : r < 10000) : Txt.zfill (SX.S (TL.numL r)) 4 = SX.S (four r) := by
  unfold Txt.zfill four
  rw [← numL_pad h, SX.S_len]
  split
  · rename_i hl
    rw [show 4 - (TL.numL r).length = 0 by omega]
    rfl
  · unfold zfilled
    have hd := TL.numL_digits r
    cases e : TL.numL r with
    | nil => exact absurd e (TL.numL_ne r)
    | cons c t =>
      have hc := hd c (by rw [e]; exact List.mem_cons_self)
      have eg : (SX.S (c :: t)).cps[0]? = some c := rfl
      have e43 : ¬ c = 43 := by omega
      have e45 : ¬ c = 45 := by omega
      rw [eg]
      split
      · rename_i h; exact absurd (Option.some.inj h) e43
      · rename_i h; exact absurd (Option.some.inj h) e45
      · rw [Builtin.Str.padded.eq_1]
        apply TL.ext_tl
        rw [tl_S]
        show ((Array.replicate _ 48 ++ (SX.S (c :: t)).cps ++ Array.replicate 0 0) : Array Nat).toList = _
        simp [SX.S]
def dtx (n : Int) : List Nat := (if n < 0 then [45] else []) ++ (TL.numL (n.natAbs / 10000) ++ (if n.natAbs % 10000 = 0 then [] else 46 :: noE (four (n.natAbs % 10000))))

end Dg
open Dg hiding isD
/-! ### the calendar -/
def leap (y : Int) : Bool := decide (y % 4 = 0) && (decide (y % 100 ≠ 0) || decide (y % 400 = 0))
def monthsL : List Int := [31, 28, 31, 30, 31, 30, 31, 31, 30, 31, 30, 31]
def mlen (y m : Int) : Int := if m = 2 ∧ leap y = true then 29 else monthsL.getD (m - 1).toNat 0
def cumN (y : Int) : Nat → Int
  | 0 => 0
  | k + 1 => cumN y k + mlen y ((k : Int) + 1)
def yst (y : Int) : Int := 365 * (y - 1) + (y - 1) / 4 - (y - 1) / 100 + (y - 1) / 400
def dayN (y m d : Int) : Int := -719162 + (yst y + cumN y (m - 1).toNat) + d - 1
def isD (y m d : Int) : Prop := (1 ≤ y ∧ y ≤ 9999) ∧ (1 ≤ m ∧ m ≤ 12) ∧ (1 ≤ d ∧ d ≤ mlen y m)
instance (y m d : Int) : Decidable (isD y m d) := by unfold isD; infer_instance
theorem month_cases {m : Int} (h : 1 ≤ m ∧ m ≤ 12) : m = 1 ∨ m = 2 ∨ m = 3 ∨ m = 4 ∨ m = 5 ∨ m = 6 ∨ m = 7 ∨ m = 8 ∨ m = 9 ∨ m = 10 ∨ m = 11 ∨ m = 12 := by omega
theorem mlen_in {y m : Int} (h : 1 ≤ m ∧ m ≤ 12) : 28 ≤ mlen y m ∧ mlen y m ≤ 31 := by
  unfold mlen
  split
  · omega
  · rcases month_cases h with rfl | rfl | rfl | rfl | rfl | rfl | rfl | rfl | rfl | rfl | rfl | rfl <;> decide
theorem cum12 (y : Int) : cumN y 12 = 365 + (if leap y = true then 1 else 0) := by
  simp only [cumN, mlen, monthsL]
  by_cases h : leap y = true
  · simp [h]
  · simp [h]
theorem cum_mono (y : Int) {j k : Nat} (h : j ≤ k) (hk : k ≤ 12) : cumN y j ≤ cumN y k := by
  induction k with
  | zero => rw [Nat.le_zero.mp h]; exact Int.le_refl _
  | succ k ih =>
    by_cases e : j = k + 1
    · rw [e]; exact Int.le_refl _
    · have h1 := ih (by omega) (by omega)
      have h2 := mlen_in (y := y) (m := (k : Int) + 1) (by omega)
      show cumN y j ≤ cumN y k + mlen y ((k : Int) + 1)
      omega
theorem cum_nn (y : Int) {k : Nat} (hk : k ≤ 12) : 0 ≤ cumN y k := cum_mono y (j := 0) (by omega) hk
theorem leap_iff (y : Int) : leap y = true ↔ y % 4 = 0 ∧ (y % 100 ≠ 0 ∨ y % 400 = 0) := by
  unfold leap
  rw [Bool.and_eq_true, Bool.or_eq_true, decide_eq_true_eq, decide_eq_true_eq, decide_eq_true_eq]
theorem yst_succ (y : Int) : yst (y + 1) = yst y + cumN y 12 := by
  rw [cum12]
  unfold yst
  by_cases h : leap y = true
  · rw [if_pos h]
    have := (leap_iff y).mp h
    omega
  · rw [if_neg h]
    have : ¬ (y % 4 = 0 ∧ (y % 100 ≠ 0 ∨ y % 400 = 0)) := fun z => h ((leap_iff y).mpr z)
    omega
theorem yst_mono {y z : Int} (h : y ≤ z) : yst y ≤ yst z := by
  unfold yst
  omega
/-- a date within its year -/
theorem in_year {y m d : Int} (h : isD y m d) : 0 ≤ cumN y (m - 1).toNat + d - 1 ∧ cumN y (m - 1).toNat + d - 1 < cumN y 12 ∧ cumN y (m - 1).toNat + d ≤ cumN y m.toNat := by
  obtain ⟨_, hm, hd⟩ := h
  have e : m.toNat = (m - 1).toNat + 1 := by omega
  have h1 := cum_nn y (k := (m - 1).toNat) (by omega)
  have h2 : cumN y m.toNat = cumN y (m - 1).toNat + mlen y m := by
    rw [e]
    show cumN y (m - 1).toNat + mlen y (((m - 1).toNat : Int) + 1) = _
    rw [show (((m - 1).toNat : Int) + 1) = m by omega]
  have h3 := cum_mono y (j := m.toNat) (k := 12) (by omega) (by omega)
  omega
theorem day_inj {y m d y' m' d' : Int} (h : isD y m d) (h' : isD y' m' d') (e : dayN y m d = dayN y' m' d') : y = y' ∧ m = m' ∧ d = d' := by
  obtain ⟨a1, a2, a3⟩ := in_year h
  obtain ⟨b1, b2, b3⟩ := in_year h'
  unfold dayN at e
  have ey : y = y' := by
    by_cases l : y < y'
    · have := yst_mono (show y + 1 ≤ y' by omega)
      rw [yst_succ] at this
      omega
    · by_cases g : y' < y
      · have := yst_mono (show y' + 1 ≤ y by omega)
        rw [yst_succ] at this
        omega
      · omega
  subst ey
  have em : m = m' := by
    by_cases l : m < m'
    · have := cum_mono y (j := m.toNat) (k := (m' - 1).toNat) (by have := h'.2.1; omega) (by have := h'.2.1; omega)
      have := h'.2.2.1
      omega
    · by_cases g : m' < m
      · have := cum_mono y (j := m'.toNat) (k := (m - 1).toNat) (by have := h.2.1; omega) (by have := h.2.1; omega)
        have := h.2.2.1
        omega
      · omega
  subst em
  exact ⟨rfl, rfl, by omega⟩
theorem day_in {y m d : Int} (h : isD y m d) : -719162 ≤ dayN y m d ∧ dayN y m d ≤ 2932896 := by
  obtain ⟨a1, a2, a3⟩ := in_year h
  have h1 := yst_mono h.1.1
  have h2 := yst_mono (show y + 1 ≤ 10000 by have := h.1.2; omega)
  rw [yst_succ] at h2
  have e1 : yst 1 = 0 := by decide
  have e2 : yst 10000 = 3652059 := by decide
  unfold dayN
  omega
/-- the parts of a day's number: cycles, centuries, fours, years, the rest -/
theorem parts {D c h f g r : Int} (hD : D = 146097 * c + 36524 * h + 1461 * f + 365 * g + r) (hc : 0 ≤ c ∧ c ≤ 24) (hh : 0 ≤ h ∧ h ≤ 3) (hf : 0 ≤ f ∧ f ≤ 24) (hg : 0 ≤ g ∧ g ≤ 3) (hr : 0 ≤ r ∧ r ≤ 365)
    (hl : r = 365 → g = 3 ∧ (f = 24 → h = 3)) : D = yst (400 * c + 100 * h + 4 * f + g + 1) + r ∧ r < cumN (400 * c + 100 * h + 4 * f + g + 1) 12 ∧ 1 ≤ 400 * c + 100 * h + 4 * f + g + 1 ∧ 400 * c + 100 * h + 4 * f + g + 1 ≤ 10000 := by
  have e4 : (400 * c + 100 * h + 4 * f + g) / 4 = 100 * c + 25 * h + f := by omega
  have e100 : (400 * c + 100 * h + 4 * f + g) / 100 = 4 * c + h := by omega
  have e400 : (400 * c + 100 * h + 4 * f + g) / 400 = c := by omega
  refine ⟨?_, ?_, by omega, by omega⟩
  · unfold yst
    rw [show 400 * c + 100 * h + 4 * f + g + 1 - 1 = 400 * c + 100 * h + 4 * f + g by omega, e4, e100, e400]
    omega
  · rw [cum12]
    by_cases e : r = 365
    · obtain ⟨l1, l2⟩ := hl e
      rw [if_pos ((leap_iff _).mpr ?_)]
      · omega
      · constructor
        · omega
        · by_cases q : f = 24
          · have := l2 q
            right
            omega
          · left
            omega
    · split <;> omega
noncomputable def dt (day : Int) : Int × Int × Int := by
  classical exact if h : ∃ t : Int × Int × Int, isD t.1 t.2.1 t.2.2 ∧ dayN t.1 t.2.1 t.2.2 = day then Classical.choose h else (0, 0, 0)
theorem dt_of {y m d : Int} (h : isD y m d) : dt (dayN y m d) = (y, m, d) := by
  have hx : ∃ t : Int × Int × Int, isD t.1 t.2.1 t.2.2 ∧ dayN t.1 t.2.1 t.2.2 = dayN y m d := ⟨(y, m, d), h, rfl⟩
  unfold dt
  rw [dif_pos hx]
  obtain ⟨h1, h2⟩ := Classical.choose_spec hx
  obtain ⟨e1, e2, e3⟩ := day_inj h1 h h2
  exact Prod.ext e1 (Prod.ext e2 e3)
theorem dt_eq {day y m d : Int} (h : isD y m d) (e : dayN y m d = day) : dt day = (y, m, d) := by
  rw [← e]
  exact dt_of h
/-- the year's day r, found month by month -/
theorem month_of {y r : Int} (h0 : 0 ≤ r) (h1 : r < cumN y 12) : ∃ k : Nat, k ≤ 11 ∧ cumN y k ≤ r ∧ r < cumN y (k + 1) := by
  have key : ∀ j : Nat, j ≤ 12 → r < cumN y j → ∃ k : Nat, k < j ∧ cumN y k ≤ r ∧ r < cumN y (k + 1) := by
    intro j
    induction j with
    | zero => intro _ h; exact absurd h (by show ¬ r < 0; omega)
    | succ j ih =>
      intro hj h
      by_cases q : r < cumN y j
      · obtain ⟨k, a, b, c⟩ := ih (by omega) q
        exact ⟨k, by omega, b, c⟩
      · exact ⟨j, by omega, by omega, h⟩
  obtain ⟨k, a, b, c⟩ := key 12 (by omega) h1
  exact ⟨k, by omega, b, c⟩
theorem day_split {day : Int} (h : -719162 ≤ day ∧ day ≤ 2932896) : ∃ y m d, isD y m d ∧ dayN y m d = day := by
  have key : ∀ D : Int, 0 ≤ D → D < 3652059 → ∃ y r : Int, 1 ≤ y ∧ y ≤ 9999 ∧ D = yst y + r ∧ 0 ≤ r ∧ r < cumN y 12 := by
    intro D h0 h1
    have p := parts (D := D) (c := D / 146097) (h := if D % 146097 / 36524 < 3 then D % 146097 / 36524 else 3)
      (f := (D % 146097 - (if D % 146097 / 36524 < 3 then D % 146097 / 36524 else 3) * 36524) / 1461)
      (g := if (D % 146097 - (if D % 146097 / 36524 < 3 then D % 146097 / 36524 else 3) * 36524) % 1461 / 365 < 3 then (D % 146097 - (if D % 146097 / 36524 < 3 then D % 146097 / 36524 else 3) * 36524) % 1461 / 365 else 3)
      (r := (D % 146097 - (if D % 146097 / 36524 < 3 then D % 146097 / 36524 else 3) * 36524) % 1461 - 365 * (if (D % 146097 - (if D % 146097 / 36524 < 3 then D % 146097 / 36524 else 3) * 36524) % 1461 / 365 < 3 then (D % 146097 - (if D % 146097 / 36524 < 3 then D % 146097 / 36524 else 3) * 36524) % 1461 / 365 else 3))
      (by split <;> split <;> omega) (by omega) (by split <;> omega) (by split <;> omega) (by split <;> split <;> omega) (by split <;> split <;> omega) (by split <;> split <;> omega)
    obtain ⟨p1, p2, p3, p4⟩ := p
    refine ⟨_, _, p3, ?_, p1, ?_, p2⟩
    · refine Int.not_lt.mp fun z => ?_
      have := yst_mono (show 10000 ≤ _ from z)
      rw [show yst 10000 = 3652059 by decide] at this
      have hr : 0 ≤ (D % 146097 - (if D % 146097 / 36524 < 3 then D % 146097 / 36524 else 3) * 36524) % 1461 - 365 * (if (D % 146097 - (if D % 146097 / 36524 < 3 then D % 146097 / 36524 else 3) * 36524) % 1461 / 365 < 3 then (D % 146097 - (if D % 146097 / 36524 < 3 then D % 146097 / 36524 else 3) * 36524) % 1461 / 365 else 3) := by split <;> split <;> omega
      omega
    · split <;> split <;> omega
  obtain ⟨y, r, h1, h2, h3, h4, h5⟩ := key (day + 719162) (by omega) (by omega)
  obtain ⟨k, k1, k2, k3⟩ := month_of h4 h5
  have k3' : r < cumN y k + mlen y ((k : Int) + 1) := k3
  refine ⟨y, (k : Int) + 1, r - cumN y k + 1, ⟨⟨h1, h2⟩, ⟨by omega, by omega⟩, by omega, by omega⟩, ?_⟩
  unfold dayN
  rw [show ((k : Int) + 1 - 1).toNat = k by omega]
  omega
theorem dt_ok {day : Int} (h : -719162 ≤ day ∧ day ≤ 2932896) : isD (dt day).1 (dt day).2.1 (dt day).2.2 ∧ dayN (dt day).1 (dt day).2.1 (dt day).2.2 = day := by
  obtain ⟨y, m, d, h1, h2⟩ := day_split h
  rw [dt_eq h1 h2]
  exact ⟨h1, h2⟩

def topS (i : Nat) : Stmt := PySem.Challenge.pw_stylobate_k04_texts_of_dates.main.body.getD i (.Pass ⟨0, 0, 0, 0⟩)
abbrev s_is_digits : Stmt := topS 1
abbrev n_is_digits : List Str := ["text"]
theorem sc_is_digits : FnScope n_is_digits ["text"] (C8.fnScope s_is_digits) := C8.fnScope_by (by decide +kernel)
abbrev s__is_leap : Stmt := topS 10
abbrev n__is_leap : List Str := ["year"]
theorem sc__is_leap : FnScope n__is_leap ["year"] (C8.fnScope s__is_leap) := C8.fnScope_by (by decide +kernel)
abbrev s_month_length : Stmt := topS 11
abbrev n_month_length : List Str := ["year", "month"]
theorem sc_month_length : FnScope n_month_length ["year", "month"] (C8.fnScope s_month_length) := C8.fnScope_by (by decide +kernel)
abbrev s_day_of : Stmt := topS 12
abbrev n_day_of : List Str := ["year", "month", "date", "gone", "days", "earlier"]
theorem sc_day_of : FnScope n_day_of ["year", "month", "date"] (C8.fnScope s_day_of) := C8.fnScope_by (by decide +kernel)
abbrev s_date_of : Stmt := topS 13
abbrev n_date_of : List Str := ["day", "cycles", "rest", "centuries", "fours", "years", "year", "month"]
theorem sc_date_of : FnScope n_date_of ["day"] (C8.fnScope s_date_of) := C8.fnScope_by (by decide +kernel)
abbrev s_date_text : Stmt := topS 14
abbrev n_date_text : List Str := ["day", "year", "month", "date"]
theorem sc_date_text : FnScope n_date_text ["day"] (C8.fnScope s_date_text) := C8.fnScope_by (by decide +kernel)
abbrev s_read_date : Stmt := topS 15
abbrev n_read_date : List Str := ["text", "year", "month", "date"]
theorem sc_read_date : FnScope n_read_date ["text"] (C8.fnScope s_read_date) := C8.fnScope_by (by decide +kernel)
abbrev s__law_numbers : Stmt := topS 17
abbrev n__law_numbers : List Str := ["script", "count", "numbers", "k", "cell"]
theorem sc__law_numbers : FnScope n__law_numbers ["script", "count"] (C8.fnScope s__law_numbers) := C8.fnScope_by (by decide +kernel)
abbrev s__law_is_integer : Stmt := topS 18
abbrev n__law_is_integer : List Str := ["value"]
theorem sc__law_is_integer : FnScope n__law_is_integer ["value"] (C8.fnScope s__law_is_integer) := C8.fnScope_by (by decide +kernel)
abbrev s__law_text : Stmt := topS 19
abbrev n__law_text : List Str := ["number", "size", "signs", "few", "word", "rest", "k"]
theorem sc__law_text : FnScope n__law_text ["number", "size"] (C8.fnScope s__law_text) := C8.fnScope_by (by decide +kernel)
abbrev s__law_digits : Stmt := topS 20
abbrev n__law_digits : List Str := ["number", "size", "text", "k"]
theorem sc__law_digits : FnScope n__law_digits ["number", "size"] (C8.fnScope s__law_digits) := C8.fnScope_by (by decide +kernel)
abbrev s__law_expected : Stmt := topS 21
abbrev n__law_expected : List Str := ["text", "numbers", "part", "number", "sign", "place"]
theorem sc__law_expected : FnScope n__law_expected ["text"] (C8.fnScope s__law_expected) := C8.fnScope_by (by decide +kernel)
abbrev s__law_changed : Stmt := topS 22
abbrev n__law_changed : List Str := ["text", "choice", "at", "sign"]
theorem sc__law_changed : FnScope n__law_changed ["text", "choice", "at", "sign"] (C8.fnScope s__law_changed) := C8.fnScope_by (by decide +kernel)
abbrev s_law : Stmt := topS 23
abbrev n_law : List Str := ["script", "numbers", "day", "date", "due", "text", "sign", "changed", "told", "expected"]
theorem sc_law : FnScope n_law ["script"] (C8.fnScope s_law) := C8.fnScope_by (by decide +kernel)
/-! ### the law's numbers -/
def cell0 (ns : List Int) (k : Nat) : Int := if 0 < ns.length then ns.getD (k - k / ns.length * ns.length) 0 else 0
def cell1 (ns : List Int) (k : Nat) : Int := if cell0 ns k < 0 then 1 - 2 * cell0 ns k else cell0 ns k
def cellM (c : Int) (k : Nat) : Int := (((c + 101 * (k : Int) + 13) * 40692 + (k : Int) * (k : Int) * 6271) % 2147483399 + 29 * (k : Int) + 5) * 3935559000370003845 % 18446744073709551533
def cellN (ns : List Int) (k : Nat) : Int := if (ns.length : Int) ≤ (k : Int) ∨ cell1 ns k < 1000000000 then cellM (cell1 ns k) k else cell1 ns k
def lawN (ns : List Int) (c : Nat) : List Int := (List.range c).map (cellN ns)
theorem cell1_nn (ns : List Int) (k : Nat) : 0 ≤ cell1 ns k := by
  unfold cell1
  split <;> omega
theorem cellN_nn (ns : List Int) (k : Nat) : 0 ≤ cellN ns k := by
  unfold cellN
  split
  · unfold cellM
    exact Int.emod_nonneg _ (by decide)
  · exact cell1_nn ns k
theorem lawN_len (ns : List Int) (c : Nat) : (lawN ns c).length = c := by
  unfold lawN
  rw [List.length_map, List.length_range]
theorem lawN_nn {ns : List Int} {c : Nat} : ∀ n ∈ lawN ns c, 0 ≤ n := by
  intro n h
  unfold lawN at h
  obtain ⟨k, _, e⟩ := List.mem_map.mp h
  rw [← e]
  exact cellN_nn ns k
theorem lawN_get {ns : List Int} {c i : Nat} (h : i < c) : (lawN ns c)[i]? = some (cellN ns i) := by
  unfold lawN
  rw [List.getElem?_map, List.getElem?_range h] <;> rfl
/-- the k-th of them, as the law's list of values -/
theorem lawN_at {ns : List Int} {c i : Nat} (h : i < c) : atI ((lawN ns c).map V.int) (i : Int) = some (.int (cellN ns i)) := atI_nat (by
  rw [List.getElem?_map, lawN_get h] <;> rfl)
def sp__law_numbers (K : PySem.W.Frag) : Sp := fun vs H Q _ => ∃ (a : Addr) (ns : List Int) (c : Nat), vs = [.ref a, .int (c : Int)] ∧ SqL K H a (ns.map V.int) ∧ ns.length ≤ 63 ∧ c ≤ 1000 ∧
  ∀ p H', H p = none → Ex H H' → H' p = some (.lst ((lawN ns c).map V.int)) → Q (.ref p) H'
section
variable {P : Program} {w : World} {K : PySem.W.Frag} {mg : Str → Option Value} {base : Heap}
theorem ok__law_numbers (D : Dn K mg "_law_numbers" s__law_numbers ["script", "count"]) (z_int : mg "int" = none) (z_len : mg "len" = none) (z_range : mg "range" = none) :
    C8.Cal P w K mg base 1 "_law_numbers" (sp__law_numbers K) [] := by
  refine cal_of D sc__law_numbers (fun vs H Q E h => ?_) (fun f cdv A outer s H vs Q E hr h => ?_)
  · obtain ⟨_, _, _, rfl, _⟩ := h
    rfl
  refine ⟨_, (pss_cons (ps_set (i := 2) sc__law_numbers.nd rfl (.inl rfl) (pe_lst pa_nil))
    (pss_cons (ps_for PassesOwn.never rfl (pi_range1 rfl z_range (pa_cons (pv 1) pa_nil)) (pg_name (i := 3) sc__law_numbers.nd rfl (.inl rfl))
      (pss_cons (ps_set (i := 4) sc__law_numbers.nd rfl (.inl rfl) pe_int)
    (pss_cons (ps_if (pt_cmpR op_gt (pe_callB call_len_seq (by rfl) z_len PySem.boot_len (pa_cons (pv 0) pa_nil)) pe_int (nomark _))
      (pss_one (ps_set (i := 4) sc__law_numbers.nd rfl (.inl rfl) (pe_callTy call_int1 (by rfl) z_int (by decide +kernel) (pa_cons (pe_ix ix_list (pv 0) (pe_op op_sub (pv 3) (pe_op op_mul (pe_op op_fdiv (pv 3) (pe_callB call_len_seq (by rfl) z_len PySem.boot_len (pa_cons (pv 0) pa_nil))) (pe_callB call_len_seq (by rfl) z_len PySem.boot_len (pa_cons (pv 0) pa_nil)))) (fun _ _ => rfl)) pa_nil))))
      pss_nil)
    (pss_cons (ps_if (pt_cmpR op_lt (pv 4) pe_int (nomark _))
      (pss_one (ps_set (i := 4) sc__law_numbers.nd rfl (.inl rfl) (pe_op op_sub pe_int (pe_op op_mul pe_int (pv 4)))))
      pss_nil)
    (Evl.pss_cut (ps_if (PW.pt (pw_or (pt_cmpR op_ge (pv 3) (pe_callB call_len_seq (by rfl) z_len PySem.boot_len (pa_cons (pv 0) pa_nil)) (nomark _)) (pw_or1 (pt_cmpR op_lt (pv 4) pe_int (nomark _)))))
      (pss_cons (ps_set (i := 4) sc__law_numbers.nd rfl (.inl rfl) (pe_op op_mod (pe_callTy call_int1 (by rfl) z_int (by decide +kernel) (pa_cons (pe_op op_add (pe_op op_mul (pe_op op_add (pe_op op_add (pv 4) (pe_op op_mul pe_int (pv 3))) pe_int) pe_int) (pe_op op_mul (pe_op op_mul (pv 3) (pv 3)) pe_int)) pa_nil)) pe_int))
    (pss_one (ps_set (i := 4) sc__law_numbers.nd rfl (.inl rfl) (pe_op op_mod (pe_callTy call_int1 (by rfl) z_int (by decide +kernel) (pa_cons (pe_op op_mul (pe_op op_add (pe_op op_add (pv 4) (pe_op op_mul pe_int (pv 3))) pe_int) pe_int) pa_nil)) pe_int))))
      pss_nil)
    (pss_one (ps_expr (pe_bm PySem.F.plainAttrs_list PySem.F.slot_list_append PySem.F.type_list_append mt_append (pv 2) (pa_cons (pv 4) pa_nil)))))))))
    (pss_one (ps_ret (pv 2))))), ?_⟩
  obtain ⟨a, ns, c, rfl, hS, h63, hc, q⟩ := h
  have hl : (ns.map V.int).length = ns.length := List.length_map _
  refine q_asgL (el_lst ea_nil (by decide)) fun p H1 hp e1 h1 => ?_
  refine q_forR1 (n := (c : Int)) (ea_cons (ev_var rfl) ea_nil) ⟨by omega, by omega⟩
    (fun i σ H' => ∃ y3 y4, σ = [some (.ref a), some (.int (c : Int)), some (.ref p), y3, y4] ∧ Ex H H' ∧ H' p = some (.lst ((lawN ns i).map V.int)))
    (fun H2 e2 => ⟨none, none, rfl, e1.trans e2, e2 _ _ h1⟩) (fun i σ H2 hi hw => ?_) (fun σ H2 hw => ?_)
  · obtain ⟨y3, y4, rfl, e2, h2⟩ := hw
    have hS2 : SqL K H2 a (ns.map V.int) := ex_l e2 hS
    refine q_asg ev_c fun H3 e3 => ?_
    have hS3 : SqL K H3 a (ns.map V.int) := ex_l e3 hS2
    -- the cell as the script has it
    refine q_ifAsg (v := .int (cell0 ns i)) (b := decide ((0 : Int) < ((ns.map V.int).length : Int))) ?_ (fun hb => ?_) (fun hb => ?_) fun H4 e4 => ?_
    · walk_at "et"
    · have h0 : 0 < ns.length := by
        have := of_decide_eq_true hb
        rw [hl] at this
        omega
      have em : i / ns.length * ns.length ≤ i := Nat.div_mul_le_self i ns.length
      have hlt : i - i / ns.length * ns.length < ns.length := by
        have := Nat.mod_lt i h0
        have := Nat.div_add_mod i ns.length
        rw [Nat.mul_comm] at this
        omega
      have ea : atI (ns.map V.int) ((i : Int) - (i : Int) / ((ns.map V.int).length : Int) * ((ns.map V.int).length : Int)) = some (.int (cell0 ns i)) := by
        rw [hl]
        have e5 : (i : Int) - (i : Int) / (ns.length : Int) * (ns.length : Int) = ((i - i / ns.length * ns.length : Nat) : Int) := by
          rw [Int.ofNat_sub em, Int.natCast_mul, Int.natCast_ediv]
        rw [e5]
        refine atI_nat ?_
        unfold cell0
        rw [if_pos h0, List.getElem?_map, List.getElem?_eq_getElem hlt, List.getD_eq_getElem?_getD, List.getElem?_eq_getElem hlt] <;> rfl
      refine ev_int (ev_op (ev_var rfl) (ev_op (ev_var rfl) (ev_op (ev_op (ev_var rfl) (ev_len (ev_var rfl) hS3) (rv_I ⟨?_, ?_⟩)) (ev_len (ev_var rfl) hS3) (rv_I ?_)) rv_I0) (rv_ixL hS3 ea))
      · rw [hl]; omega
      · rw [hl]; omega
      · rw [hl]; exact .inr ⟨by omega, by omega⟩
    · have h0 : ¬ 0 < ns.length := by
        have := of_decide_eq_false hb
        rw [hl] at this
        omega
      unfold cell0
      rw [if_neg h0]
      rfl
    have hS4 : SqL K H4 a (ns.map V.int) := ex_l e4 hS3
    refine q_ifAsg (v := .int (cell1 ns i)) (b := decide (cell0 ns i < 0)) (by walk_at "et") (fun hb => ?_) (fun hb => ?_) fun H5 e5 => ?_
    · refine ev_is (v := .int (1 - 2 * cell0 ns i)) (by walk_at "ev") ?_
      unfold cell1
      rw [if_pos (of_decide_eq_true hb)]
    · unfold cell1
      rw [if_neg (of_decide_eq_false hb)]
      rfl
    have hS5 : SqL K H5 a (ns.map V.int) := ex_l e5 hS4
    have h5 : H5 p = some (.lst ((lawN ns i).map V.int)) := e5 _ _ (e4 _ _ (e3 _ _ h2))
    have x5 : Ex H H5 := ((e2.trans e3).trans e4).trans e5
    -- the cell mixed
    refine q_cut (M := fun σ H' => σ = [some (.ref a), some (.int (c : Int)), some (.ref p), some (.int (i : Int)), some (.int (cellN ns i))] ∧ Ex H5 H') ?_ ?_
    · refine s_if (b := decide ((((ns.map V.int).length : Nat) : Int) ≤ (i : Int)) || decide (cell1 ns i < 1000000000)) ?_ (fun hb H6 e6 => ?_) (fun hb H6 e6 => ?_)
      · exact et_or (et_test (ev_op (ev_var rfl) (ev_len (ev_var rfl) hS5) rv_I0)) fun _ => et_test (ev_op (ev_var rfl) ev_c rv_I0)
      · have hb' : (ns.length : Int) ≤ (i : Int) ∨ cell1 ns i < 1000000000 := by
          rw [Bool.or_eq_true, decide_eq_true_eq, decide_eq_true_eq, hl] at hb
          exact hb
        refine q_asg (v := .int (((cell1 ns i + 101 * (i : Int) + 13) * 40692 + (i : Int) * (i : Int) * 6271) % 2147483399)) ?_ fun H7 e7 => ?_
        · refine ev_op (ev_int (ev_op (ev_op (ev_op (ev_op (ev_var rfl) (ev_op ev_c (ev_var rfl) (rv_I (.inl ⟨by decide, by decide⟩))) rv_I0) ev_c rv_I0) ev_c (rv_I (.inr ⟨by decide, by decide⟩))) (ev_op (ev_op (ev_var rfl) (ev_var rfl) (rv_I (.inl ⟨by omega, by omega⟩))) ev_c (rv_I (.inr ⟨by decide, by decide⟩))) rv_I0)) ev_c (rv_I (by decide))
        refine s_asg (v := .int (cellN ns i)) ?_ fun H8 e8 => ⟨rfl, (e6.trans e7).trans e8⟩
        refine ev_is (ev_op (ev_int (ev_op (ev_op (ev_op (ev_var rfl) (ev_op ev_c (ev_var rfl) (rv_I (.inl ⟨by decide, by decide⟩))) rv_I0) ev_c rv_I0) ev_c (rv_I (.inr ⟨by decide, by decide⟩)))) ev_c (rv_I (by decide))) ?_
        unfold cellN
        rw [if_pos hb']
        rfl
      · have hb' : ¬ ((ns.length : Int) ≤ (i : Int) ∨ cell1 ns i < 1000000000) := by
          intro z
          rw [Bool.or_eq_false_iff, decide_eq_false_iff_not, decide_eq_false_iff_not, hl] at hb
          rcases z with z | z
          · exact hb.1 z
          · exact hb.2 z
        refine ⟨?_, e6⟩
        unfold cellN
        rw [if_neg hb']
        rfl
    · intro σ' H' hm
      obtain ⟨rfl, x6⟩ := hm
      refine s_app (x6 _ _ h5) (ev_var rfl) (ev_var rfl) (by rw [List.length_map, lawN_len]; omega) fun H7 e7 => ?_
      refine ⟨_, _, rfl, Ex.mut ((x5.trans x6).trans e7) hp, ?_⟩
      rw [upd_same]
      unfold lawN
      rw [List.range_succ, List.map_append, List.map_append]
      rfl
  · obtain ⟨y3, y4, rfl, e2, h2⟩ := hw
    have ec : ((c : Int)).toNat = c := by omega
    rw [ec] at h2
    exact s_ret (ev_var rfl) fun H3 e3 => q p H3 hp (e2.trans e3) (e3 _ _ h2)
end

/-! ### the law's texts and values -/
def signsL : List Nat := (PySem.Str.ofString " !\"#$&'()*+,-./0123456789:;<=>?@ABCDEFGHIJKLMNOPQRSTUVWXYZ[\\]^_`abcdefghijklmnopqrstuvwxyz{|}~").cps.toList
def fewL : List Nat := (PySem.Str.ofString "ab*?\\ -'\"A").cps.toList
theorem signs_len : signsL.length = 94 := by decide +kernel
theorem few_len : fewL.length = 10 := by decide +kernel
theorem signs_ok : ∀ c ∈ signsL, 32 ≤ c ∧ c ≤ 126 := by decide +kernel
theorem few_ok : ∀ c ∈ fewL, 32 ≤ c ∧ c ≤ 126 := by decide +kernel
/-- what is written so far, and the rest of the number -/
def lawTS (n : Int) : Nat → List Nat × Int
  | 0 => ([], n / 3)
  | k + 1 => if n % 3 = 0 then ((lawTS n k).1 ++ [signsL.getD ((lawTS n k).2 % 94).toNat 0], (lawTS n k).2 / 94 + 7 * (k : Int))
      else ((lawTS n k).1 ++ [fewL.getD ((lawTS n k).2 % 10).toNat 0], (lawTS n k).2 / 10 + 7 * (k : Int))
def lawT (n : Int) (size : Nat) : List Nat := (lawTS n size).1
def okC (c : Nat) : Prop := 32 ≤ c ∧ c ≤ 126
theorem getD_mem {l : List Nat} {i : Nat} (h : i < l.length) : l.getD i 0 ∈ l := by
  rw [List.getD_eq_getElem?_getD, List.getElem?_eq_getElem h]
  exact List.getElem_mem h
theorem sign_at {l : List Nat} {r : Int} {m : Nat} (hl : l.length = m) (hm : 0 < m) : (r % (m : Int)).toNat < l.length := by
  have h1 := Int.emod_nonneg r (show (m : Int) ≠ 0 by omega)
  have h2 := Int.emod_lt_of_pos r (show (0 : Int) < (m : Int) by omega)
  omega
theorem pick {l : List Nat} {r : Int} {m : Nat} (hl : l.length = m) (hm : 0 < m) : atI l (r % (m : Int)) = some (l.getD (r % (m : Int)).toNat 0) := by
  have hx := sign_at (r := r) hl hm
  have h1 := Int.emod_nonneg r (show (m : Int) ≠ 0 by omega)
  have e : atI l (((r % (m : Int)).toNat : Nat) : Int) = some (l.getD (r % (m : Int)).toNat 0) := atI_nat (by
    rw [List.getElem?_eq_getElem hx, List.getD_eq_getElem?_getD, List.getElem?_eq_getElem hx] <;> rfl)
  rw [Int.toNat_of_nonneg h1] at e
  exact e
theorem lawT_len (n : Int) : ∀ k, (lawT n k).length = k
  | 0 => rfl
  | k + 1 => by
    have ih := lawT_len n k
    unfold lawT at ih ⊢
    rw [lawTS]
    split <;> (show (_ ++ [_]).length = k + 1; rw [List.length_append, ih] <;> rfl)
theorem lawT_ok (n : Int) : ∀ k, ∀ c ∈ lawT n k, okC c
  | 0, c, h => by cases h
  | k + 1, c, h => by
    have ih := lawT_ok n k
    unfold lawT at ih h
    rw [lawTS] at h
    split at h
    · rcases List.mem_append.mp h with h | h
      · exact ih c h
      · rw [List.mem_singleton.mp h]
        exact signs_ok _ (getD_mem (sign_at signs_len (by decide)))
    · rcases List.mem_append.mp h with h | h
      · exact ih c h
      · rw [List.mem_singleton.mp h]
        exact few_ok _ (getD_mem (sign_at few_len (by decide)))
def lawV (n : Int) : V :=
  if n % 8 = 0 then .non else if n % 8 = 1 then .bl (decide (n / 8 % 2 = 0)) else if n % 8 = 2 then .int (n / 8 % 3 - 1)
  else if n % 8 = 3 then .int (n / 8 % 2000000000000001 - 1000000000000000) else if n % 8 = 4 then .int (n / 8 % 3652059 - 719162)
  else if n % 8 = 5 then .int (n / 8 % 40 - 20) else .str (SX.S (lawT (n / 8 / 13) (n / 8 % 13).toNat))
/-- a plain value: None, a boolean, a small integer, a short text of plain signs -/
inductive VOk : V → Prop where
  | non : VOk .non
  | bl (b : Bool) : VOk (.bl b)
  | int (i : Int) (h : -1000000000000000 ≤ i ∧ i ≤ 1000000000000000) : VOk (.int i)
  | str (l : List Nat) (h : l.length ≤ 12) (hc : ∀ c ∈ l, okC c) : VOk (.str (SX.S l))
theorem lawV_ok (n : Int) : VOk (lawV n) := by
  unfold lawV
  split
  · exact .non
  split
  · exact .bl _
  split
  · exact .int _ (by omega)
  split
  · exact .int _ (by omega)
  split
  · exact .int _ (by omega)
  split
  · exact .int _ (by omega)
  · exact .str _ (by rw [lawT_len]; omega) (lawT_ok _ _)
def sp__law_text (K : PySem.W.Frag) : Sp := fun vs H Q _ => ∃ (n : Int) (z : Nat), vs = [.int n, .int (z : Int)] ∧ z ≤ 1000 ∧ ∀ H', Ex H H' → Q (.str (SX.S (lawT n z))) H'
theorem join_ones : ∀ l : List Nat, Txt.join (SX.S []) (l.map fun c => (⟨#[c]⟩ : Str)) = SX.S l := by
  intro l
  have e : (l.map fun c => (⟨#[c]⟩ : Str)) = (l.map fun c => [c]).map SX.S := by
    rw [List.map_map]
    rfl
  rw [e, SX.join_S]
  congr 1
  induction l with
  | nil => rfl
  | cons c r ih =>
    cases r with
    | nil => rfl
    | cons d r => 
      have e2 : TL.joinL [] (List.map (fun c => [c]) (c :: d :: r)) = c :: TL.joinL [] (List.map (fun c => [c]) (d :: r)) := rfl
      rw [e2, ih (by rw [List.map_map]; rfl)]
section
variable {P : Program} {w : World} {K : PySem.W.Frag} {mg : Str → Option Value} {base : Heap}
theorem ok__law_text (D : Dn K mg "_law_text" s__law_text ["number", "size"]) (z_int : mg "int" = none) (z_range : mg "range" = none) :
    C8.Cal P w K mg base 1 "_law_text" (sp__law_text K) [] := by
  refine cal_of D sc__law_text (fun vs H Q E h => ?_) (fun f cdv A outer s H vs Q E hr h => ?_)
  · obtain ⟨_, _, rfl, _⟩ := h
    rfl
  refine ⟨_, (pss_cons (ps_set (i := 2) sc__law_text.nd rfl (.inl rfl) pe_str)
    (pss_cons (ps_set (i := 3) sc__law_text.nd rfl (.inl rfl) pe_str)
    (pss_cons (ps_set (i := 4) sc__law_text.nd rfl (.inl rfl) (pe_lst pa_nil))
    (pss_cons (ps_set (i := 5) sc__law_text.nd rfl (.inl rfl) (pe_op op_fdiv (pe_callTy call_int1 (by rfl) z_int (by decide +kernel) (pa_cons (pv 0) pa_nil)) pe_int))
    (pss_cons (ps_for PassesOwn.never rfl (pi_range1 rfl z_range (pa_cons (pv 1) pa_nil)) (pg_name (i := 6) sc__law_text.nd rfl (.inl rfl))
      (pss_one (ps_if (pt_cmpR op_eq (pe_op op_mod (pe_callTy call_int1 (by rfl) z_int (by decide +kernel) (pa_cons (pv 0) pa_nil)) pe_int) pe_int (nomark _))
      (pss_cons (ps_expr (pe_bm PySem.F.plainAttrs_list PySem.F.slot_list_append PySem.F.type_list_append mt_append (pv 4) (pa_cons (pe_ix ix_str (pv 2) (pe_op op_mod (pe_callTy call_int1 (by rfl) z_int (by decide +kernel) (pa_cons (pv 5) pa_nil)) pe_int) (fun _ _ => rfl)) pa_nil)))
    (pss_one (ps_set (i := 5) sc__law_text.nd rfl (.inl rfl) (pe_op op_add (pe_op op_fdiv (pv 5) pe_int) (pe_op op_mul pe_int (pv 6))))))
      (pss_cons (ps_expr (pe_bm PySem.F.plainAttrs_list PySem.F.slot_list_append PySem.F.type_list_append mt_append (pv 4) (pa_cons (pe_ix ix_str (pv 3) (pe_op op_mod (pe_callTy call_int1 (by rfl) z_int (by decide +kernel) (pa_cons (pv 5) pa_nil)) pe_int) (fun _ _ => rfl)) pa_nil)))
    (pss_one (ps_set (i := 5) sc__law_text.nd rfl (.inl rfl) (pe_op op_add (pe_op op_fdiv (pv 5) pe_int) (pe_op op_mul pe_int (pv 6)))))))))
    (pss_one (ps_ret (pe_join pe_str (pv 4))))))))), ?_⟩
  obtain ⟨n, z, rfl, hz, q⟩ := h
  refine q_asg ev_c fun H1 e1 => ?_
  refine q_asg ev_c fun H2 e2 => ?_
  refine q_asgL (el_lst ea_nil (by decide)) fun p H3 hp e3 h3 => ?_
  refine q_asg (v := .int (n / 3)) (by walk_at "ev") fun H4 e4 => ?_
  have x2 : Ex H H2 := e1.trans e2
  refine q_forR1 (n := (z : Int)) (ea_cons (ev_var rfl) ea_nil) ⟨by omega, by omega⟩
    (fun i σ H' => ∃ y6, σ = [some (.int n), some (.int (z : Int)), some (.str (SX.S signsL)), some (.str (SX.S fewL)), some (.ref p), some (.int (lawTS n i).2), y6] ∧ Ex H2 H' ∧ H' p = some (.lst ((lawT n i).map fun c => V.str ⟨#[c]⟩)))
    (fun H5 e5 => ⟨none, rfl, (e3.trans e4).trans e5, e5 _ _ (e4 _ _ h3)⟩) (fun i σ H5 hi hw => ?_) (fun σ H5 hw => ?_)
  · obtain ⟨y6, rfl, e5, h5⟩ := hw
    have hlen : (((lawT n i).map fun c => V.str ⟨#[c]⟩)).length < 100000 := by
      rw [List.length_map, lawT_len]
      omega
    refine s_if (b := decide (V.int (n % 3) = V.int 0)) (by walk_at "et") (fun hb H6 e6 => ?_) (fun hb H6 e6 => ?_)
    · have hb' : n % 3 = 0 := V.int.inj (of_decide_eq_true hb)
      have hx := sign_at (r := (lawTS n i).2) signs_len (by decide)
      refine q_app (v := .str ⟨#[signsL.getD ((lawTS n i).2 % 94).toNat 0]⟩) (e6 _ _ h5) (ev_var rfl) ?_ hlen fun H7 e7 => ?_
      · refine ev_op (ev_var rfl) (y := .int ((lawTS n i).2 % 94)) (by walk_at "ev") (rv_ixS (by decide +kernel) ?_)
        exact pick (m := 94) signs_len (by decide)
      refine s_asg (v := .int ((lawTS n (i + 1)).2)) ?_ fun H8 e8 => ?_
      · refine ev_is (v := .int ((lawTS n i).2 / 94 + 7 * (i : Int))) (by walk_at "ev") ?_
        rw [lawTS, if_pos hb']
      · refine ⟨_, rfl, (Ex.mut ((e5.trans e6).trans e7) (fresh_back (Ex.refl _) hp)).trans e8, ?_⟩
        refine e8 _ _ ?_
        rw [upd_same]
        unfold lawT
        rw [lawTS, if_pos hb', List.map_append]
        rfl
    · have hb' : ¬ n % 3 = 0 := fun e => of_decide_eq_false hb (by rw [e])
      have hx := sign_at (r := (lawTS n i).2) few_len (by decide)
      refine q_app (v := .str ⟨#[fewL.getD ((lawTS n i).2 % 10).toNat 0]⟩) (e6 _ _ h5) (ev_var rfl) ?_ hlen fun H7 e7 => ?_
      · refine ev_op (ev_var rfl) (y := .int ((lawTS n i).2 % 10)) (by walk_at "ev") (rv_ixS (by decide +kernel) ?_)
        exact pick (m := 10) few_len (by decide)
      refine s_asg (v := .int ((lawTS n (i + 1)).2)) ?_ fun H8 e8 => ?_
      · refine ev_is (v := .int ((lawTS n i).2 / 10 + 7 * (i : Int))) (by walk_at "ev") ?_
        rw [lawTS, if_neg hb']
      · refine ⟨_, rfl, (Ex.mut ((e5.trans e6).trans e7) (fresh_back (Ex.refl _) hp)).trans e8, ?_⟩
        refine e8 _ _ ?_
        rw [upd_same]
        unfold lawT
        rw [lawTS, if_neg hb', List.map_append]
        rfl
  · obtain ⟨y6, rfl, e5, h5⟩ := hw
    have ez : ((z : Int)).toNat = z := by omega
    rw [ez] at h5
    have hl : ((lawT n z).map fun c => V.str ⟨#[c]⟩) = ((lawT n z).map fun c => (⟨#[c]⟩ : Str)).map V.str := by
      rw [List.map_map]
      rfl
    refine ⟨⟨_, rfl⟩, _, rfl, SX.S [], p, (lawT n z).map fun c => (⟨#[c]⟩ : Str), rfl, rfl, .inl (sq_of ?_), ?_, ?_⟩
    · rw [← hl]
      exact h5
    · have e9 : ((lawT n z).map fun c => (⟨#[c]⟩ : Str)).map (·.length) = List.replicate z 1 := by
        rw [List.map_map, List.eq_replicate_iff]
        refine ⟨by rw [List.length_map, lawT_len], fun b hb => ?_⟩
        obtain ⟨c, _, rfl⟩ := List.mem_map.mp hb
        rfl
      rw [e9, List.sum_replicate_nat, List.length_map, lawT_len]
      show z * 1 + z * 0 ≤ _
      omega
    · rw [join_ones]
      exact q _ (x2.trans e5)
theorem ec_text {σ : L2.St} {H : Hp} {ta tb : TE} {E : XK} {n m : Int} (ha : Ev ta σ H (.int n)) (hb : Ev tb σ H (.int m)) (h0 : 0 ≤ m) (h1 : m ≤ 1000) : Ev (tCall (sp__law_text K) [] E (tCons ta (tCons tb tNil))) σ H (.str (SX.S (lawT n m.toNat))) :=
  ev_call (ea_cons ha (ea_cons hb ea_nil)) fun H1 e Q q E => ⟨n, m.toNat, by rw [Int.toNat_of_nonneg h0]; rfl, by omega, q⟩

end
/-! ### the program's calendar -/
def dayV (y m d : Int) : V := if isD y m d then .int (dayN y m d) else .non
def tri (t : Int × Int × Int) : List V := [.int t.1, .int t.2.1, .int t.2.2]
def sp__is_leap (K : PySem.W.Frag) : Sp := fun vs H Q _ => ∃ y : Int, vs = [.int y] ∧ ∀ H', Ex H H' → Q (.bl (leap y)) H'
def sp_month_length (K : PySem.W.Frag) : Sp := fun vs H Q _ => ∃ y m : Int, vs = [.int y, .int m] ∧ (1 ≤ m ∧ m ≤ 12) ∧ ∀ H', Ex H H' → Q (.int (mlen y m)) H'
def sp_day_of (K : PySem.W.Frag) : Sp := fun vs H Q _ => ∃ y m d : Int, vs = [.int y, .int m, .int d] ∧ ∀ H', Ex H H' → Q (dayV y m d) H'
def sp_date_of (K : PySem.W.Frag) : Sp := fun vs H Q _ => ∃ d : Int, vs = [.int d] ∧ (-719162 ≤ d ∧ d ≤ 2932896) ∧ ∀ p H', H p = none → Ex H H' → H' p = some (.tup (tri (dt d))) → Q (.ref p) H'
section
variable {P : Program} {w : World} {K : PySem.W.Frag} {mg : Str → Option Value} {base : Heap}
section
variable {σ : L2.St} {H : Hp} {ta tb tc : TE} {E : XK} {y m d : Int}
theorem ec_leap (ha : Ev ta σ H (.int y)) : Ev (tCall (sp__is_leap K) [] E (tCons ta tNil)) σ H (.bl (leap y)) := ev_call (ea_cons ha ea_nil) fun H1 e Q q E => ⟨y, rfl, q⟩
theorem ec_mlen (ha : Ev ta σ H (.int y)) (hb : Ev tb σ H (.int m)) (h : 1 ≤ m ∧ m ≤ 12) : Ev (tCall (sp_month_length K) [] E (tCons ta (tCons tb tNil))) σ H (.int (mlen y m)) := ev_call (ea_cons ha (ea_cons hb ea_nil)) fun H1 e Q q E => ⟨y, m, rfl, h, q⟩
theorem ec_day (ha : Ev ta σ H (.int y)) (hb : Ev tb σ H (.int m)) (hc : Ev tc σ H (.int d)) : Ev (tCall (sp_day_of K) [] E (tCons ta (tCons tb (tCons tc tNil)))) σ H (dayV y m d) := ev_call (ea_cons ha (ea_cons hb (ea_cons hc ea_nil))) fun H1 e Q q E => ⟨y, m, d, rfl, q⟩
theorem ec_date (ha : Ev ta σ H (.int d)) (h : -719162 ≤ d ∧ d ≤ 2932896) : EvU (tCall (sp_date_of K) [] E (tCons ta tNil)) σ H (tri (dt d)) := eu_call (ea_cons ha ea_nil) fun H1 e Q q E => ⟨d, rfl, h, q⟩
end
theorem ok__is_leap (D : Dn K mg "_is_leap" s__is_leap ["year"]) :
    C8.Cal P w K mg base 1 "_is_leap" (sp__is_leap K) [] := by
  refine cal_of D sc__is_leap (fun vs H Q E h => ?_) (fun f cdv A outer s H vs Q E hr h => ?_)
  · obtain ⟨_, rfl, _⟩ := h
    rfl
  refine ⟨_, (pss_one (ps_ret (pe_and (pe_cmpR op_eq (pe_op op_mod (pv 0) pe_int) pe_int (nomark _)) (pe_one (pe_or (pe_cmpR op_ne (pe_op op_mod (pv 0) pe_int) pe_int (nomark _)) (pe_one (pe_cmpR op_eq (pe_op op_mod (pv 0) pe_int) pe_int (nomark _)))))))), ?_⟩
  obtain ⟨y, rfl, q⟩ := h
  refine s_ret (v := .bl (leap y)) ?_ fun H2 e2 => q _ e2
  refine ev_is (v := .bl (decide (V.int (y % 4) = V.int 0) && ((!decide (V.int (y % 100) = V.int 0)) || decide (V.int (y % 400) = V.int 0)))) (by walk_at "ev") ?_
  unfold leap
  simp only [V.int.injEq, decide_not, ne_eq]
theorem ok_month_length (D : Dn K mg "month_length" s_month_length ["year", "month"]) (c__is_leap : C8.Cal P w K mg base 1 "_is_leap" (sp__is_leap K) []) {p__MONTHS : Addr} (g__MONTHS : ∃ u, mg "_MONTHS" = some u ∧ RelV (.ref p__MONTHS) u) (h__MONTHS : ∀ H : Hp, SqT K H p__MONTHS (monthsL.map V.int)) :
    C8.Cal P w K mg base 2 "month_length" (sp_month_length K) [] := by
  refine cal_of D sc_month_length (fun vs H Q E h => ?_) (fun f cdv A outer s H vs Q E hr h => ?_)
  · obtain ⟨_, _, rfl, _⟩ := h
    rfl
  refine ⟨_, (pss_cons (ps_if (PW.pt (pw_and (pt_cmpR op_eq (pv 1) pe_int (nomark _)) (pw_and1 (pt_val (C8.pe_c c__is_leap hr (by decide) (by rfl) (pa_cons (pv 0) pa_nil))))))
      (pss_one (ps_ret pe_int))
      pss_nil)
    (pss_one (ps_ret (pe_ix ix_tup (C8.pe_gc rfl g__MONTHS) (pe_op op_sub (pv 1) pe_int) (fun _ _ => rfl))))), ?_⟩
  obtain ⟨y, m, rfl, hm, q⟩ := h
  refine q_when (b := decide (V.int m = V.int 2) && leap y) (et_and (by walk_at "et") fun _ => et_B (ec_leap (ev_var rfl))) (fun hb H1 e1 => s_ret (v := .int (mlen y m)) ?_ fun H2 e2 => q _ (e1.trans e2)) fun hb H1 e1 => s_ret (v := .int (mlen y m)) ?_ fun H2 e2 => q _ (e1.trans e2)
  · refine ev_is ev_c ?_
    rw [Bool.and_eq_true, decide_eq_true_eq] at hb
    unfold mlen
    rw [if_pos ⟨V.int.inj hb.1, hb.2⟩]
  · have nb : ¬ (m = 2 ∧ leap y = true) := fun z => by
      rw [z.2, decide_eq_true (by rw [z.1])] at hb
      cases hb
    obtain ⟨u, g1, g2⟩ := g__MONTHS
    refine ev_op ev_c (ev_op (ev_var rfl) ev_c rv_I0) (rv_ixT (h__MONTHS H1) ?_)
    have e : m - 1 = (((m - 1).toNat : Nat) : Int) := by omega
    unfold mlen
    rw [if_neg nb, e]
    refine atI_nat ?_
    rw [List.getElem?_map, Int.toNat_natCast]
    have hl : (m - 1).toNat < monthsL.length := by show _ < 12; omega
    rw [List.getElem?_eq_getElem hl, List.getD_eq_getElem?_getD, List.getElem?_eq_getElem hl]
    rfl
theorem ok_day_of (D : Dn K mg "day_of" s_day_of ["year", "month", "date"]) (c_month_length : C8.Cal P w K mg base 2 "month_length" (sp_month_length K) []) (z_range : mg "range" = none) (g_FIRST_DAY : ∃ u, mg "FIRST_DAY" = some u ∧ RelV (.int (-719162)) u) (g__DAYS_OF_YEAR : ∃ u, mg "_DAYS_OF_YEAR" = some u ∧ RelV (.int (365)) u) (g__LAST_YEAR : ∃ u, mg "_LAST_YEAR" = some u ∧ RelV (.int (9999)) u) :
    C8.Cal P w K mg base 3 "day_of" (sp_day_of K) [] := by
  refine cal_of D sc_day_of (fun vs H Q E h => ?_) (fun f cdv A outer s H vs Q E hr h => ?_)
  · obtain ⟨_, _, _, rfl, _⟩ := h
    rfl
  refine ⟨_, (pss_cons (ps_if (pt_not (PW.pt (pw_and (pt_chain op_le op_le pe_int (pv 0) (C8.pe_gc rfl g__LAST_YEAR)) (pw_and1 (pt_chain op_le op_le pe_int (pv 1) pe_int)))))
      (pss_one (ps_ret pe_non))
      pss_nil)
    (pss_cons (ps_if (pt_not (pt_chain op_le op_le pe_int (pv 2) (C8.pe_c c_month_length hr (by decide) (by rfl) (pa_cons (pv 0) (pa_cons (pv 1) pa_nil)))))
      (pss_one (ps_ret pe_non))
      pss_nil)
    (pss_cons (ps_set (i := 3) sc_day_of.nd rfl (.inl rfl) (pe_op op_sub (pv 0) pe_int))
    (pss_cons (ps_set (i := 4) sc_day_of.nd rfl (.inl rfl) (pe_op op_add (pe_op op_sub (pe_op op_add (pe_op op_mul (C8.pe_gc rfl g__DAYS_OF_YEAR) (pv 3)) (pe_op op_fdiv (pv 3) pe_int)) (pe_op op_fdiv (pv 3) pe_int)) (pe_op op_fdiv (pv 3) pe_int)))
    (pss_cons (ps_for PassesOwn.never rfl (pi_range2 rfl z_range (pa_cons pe_int (pa_cons (pv 1) pa_nil))) (pg_name (i := 5) sc_day_of.nd rfl (.inl rfl))
      (pss_one (ps_aug (i := 4) sc_day_of.nd rfl (.inl rfl) (C8.pe_c c_month_length hr (by decide) (by rfl) (pa_cons (pv 0) (pa_cons (pv 5) pa_nil))) ip_add)))
    (pss_one (ps_ret (pe_op op_sub (pe_op op_add (pe_op op_add (C8.pe_gc rfl g_FIRST_DAY) (pv 4)) (pv 2)) pe_int)))))))), ?_⟩
  obtain ⟨y, m, d, rfl, q⟩ := h
  refine q_when (b := !((decide (1 ≤ y) && decide (y ≤ 9999)) && (decide (1 ≤ m) && decide (m ≤ 12)))) ?_ (fun hb H1 e1 => s_ret (v := dayV y m d) ?_ fun H2 e2 => q _ (e1.trans e2)) fun hb H1 e1 => ?_
  · exact et_not (et_and (et_test (ev_chain ev_c (ev_var rfl) rv_I0 (fun _ => ev_c) (fun _ => rv_I0))) fun _ => et_test (ev_chain ev_c (ev_var rfl) rv_I0 (fun _ => ev_c) (fun _ => rv_I0)))
  · refine ev_is ev_c ?_
    unfold dayV
    rw [if_neg]
    intro z
    obtain ⟨⟨a1, a2⟩, ⟨a3, a4⟩, _⟩ := z
    rw [decide_eq_true a1, decide_eq_true a2, decide_eq_true a3, decide_eq_true a4] at hb
    cases hb
  rw [Bool.not_eq_false', Bool.and_eq_true, Bool.and_eq_true, Bool.and_eq_true, decide_eq_true_eq, decide_eq_true_eq, decide_eq_true_eq, decide_eq_true_eq] at hb
  obtain ⟨⟨y1, y2⟩, m1, m2⟩ := hb
  refine q_when (b := !(decide (1 ≤ d) && decide (d ≤ mlen y m))) ?_ (fun hb H2 e2 => s_ret (v := dayV y m d) ?_ fun H3 e3 => q _ ((e1.trans e2).trans e3)) fun hb H2 e2 => ?_
  · exact et_not (et_test (ev_chain ev_c (ev_var rfl) rv_I0 (fun _ => ec_mlen (ev_var rfl) (ev_var rfl) ⟨m1, m2⟩) (fun _ => rv_I0)))
  · refine ev_is ev_c ?_
    unfold dayV
    rw [if_neg]
    intro z
    obtain ⟨_, _, ⟨a1, a2⟩⟩ := z
    rw [decide_eq_true a1, decide_eq_true a2] at hb
    cases hb
  rw [Bool.not_eq_false', Bool.and_eq_true, decide_eq_true_eq, decide_eq_true_eq] at hb
  have hD : isD y m d := ⟨⟨y1, y2⟩, ⟨m1, m2⟩, hb⟩
  refine q_asg (v := .int (y - 1)) (by walk_at "ev") fun H3 e3 => ?_
  refine q_asg (v := .int (yst y)) ?_ fun H4 e4 => ?_
  · exact ev_op (ev_op (ev_op (ev_op ev_c (ev_var rfl) (rv_I (.inl ⟨by decide, by decide⟩))) (ev_op (ev_var rfl) ev_c (rv_I ⟨by decide, by decide⟩)) rv_I0) (ev_op (ev_var rfl) ev_c (rv_I ⟨by decide, by decide⟩)) rv_I0) (ev_op (ev_var rfl) ev_c (rv_I ⟨by decide, by decide⟩)) rv_I0
  have x4 := ((e1.trans e2).trans e3).trans e4
  refine q_forR2 (lo := 1) (n := m) (ea_cons ev_c (ea_cons (ev_var rfl) ea_nil)) ⟨by omega, by omega, by omega, by omega⟩
    (fun i σ H' => ∃ y5, σ = [some (.int y), some (.int m), some (.int d), some (.int (y - 1)), some (.int (yst y + cumN y i)), y5] ∧ Ex H H')
    (fun H5 e5 => ⟨none, by show _ = [_, _, _, _, some (V.int (yst y + 0)), _]; rw [Int.add_zero]; rfl, x4.trans e5⟩) (fun i σ H5 hi hw => ?_) (fun σ H5 hw => ?_)
  · obtain ⟨y5, rfl, e5⟩ := hw
    refine s_aug (a := yst y + cumN y i) (b := mlen y (1 + (i : Int))) rfl (ec_mlen (ev_var rfl) (ev_var rfl) (by omega)) fun H6 e6 => ⟨some (.int (1 + (i : Int))), ?_, e5.trans e6⟩
    show _ = [_, _, _, _, some (V.int (yst y + (cumN y i + mlen y ((i : Int) + 1)))), _]
    rw [← Int.add_assoc, Int.add_comm (i : Int) 1]
    rfl
  · obtain ⟨y5, rfl, e5⟩ := hw
    refine s_ret (v := dayV y m d) ?_ fun H6 e6 => q _ (e5.trans e6)
    refine ev_is (v := .int (dayN y m d)) ?_ (by unfold dayV; rw [if_pos hD])
    exact ev_op (ev_op (ev_op ev_c (ev_var rfl) rv_I0) (ev_var rfl) rv_I0) ev_c rv_I0
theorem ok_date_of (D : Dn K mg "date_of" s_date_of ["day"]) (c_month_length : C8.Cal P w K mg base 2 "month_length" (sp_month_length K) []) (z_divmod : mg "divmod" = none) (z_min : mg "min" = none) (g_FIRST_DAY : ∃ u, mg "FIRST_DAY" = some u ∧ RelV (.int (-719162)) u) (g__DAYS_OF_100_YEARS : ∃ u, mg "_DAYS_OF_100_YEARS" = some u ∧ RelV (.int (36524)) u) (g__DAYS_OF_400_YEARS : ∃ u, mg "_DAYS_OF_400_YEARS" = some u ∧ RelV (.int (146097)) u) (g__DAYS_OF_4_YEARS : ∃ u, mg "_DAYS_OF_4_YEARS" = some u ∧ RelV (.int (1461)) u) (g__DAYS_OF_YEAR : ∃ u, mg "_DAYS_OF_YEAR" = some u ∧ RelV (.int (365)) u) :
    C8.Cal P w K mg base 3 "date_of" (sp_date_of K) [] := by
  refine cal_of D sc_date_of (fun vs H Q E h => ?_) (fun f cdv A outer s H vs Q E hr h => ?_)
  · obtain ⟨_, rfl, _⟩ := h
    rfl
  refine ⟨_, (pss_cons (ps_asg (pe_callB call_divmod (by rfl) z_divmod (by decide +kernel) (pa_cons (pe_op op_sub (pv 0) (C8.pe_gc rfl g_FIRST_DAY)) (pa_cons (C8.pe_gc rfl g__DAYS_OF_400_YEARS) pa_nil))) (pg_tup rfl (pgs_cons (pg_name (i := 1) sc_date_of.nd rfl (.inl rfl)) (pgs_cons (pg_name (i := 2) sc_date_of.nd rfl (.inl rfl)) pgs_nil))))
    (pss_cons (ps_set (i := 3) sc_date_of.nd rfl (.inl rfl) (pe_callB (call_min2 rfl) (by rfl) z_min (by decide +kernel) (pa_cons (pe_op op_fdiv (pv 2) (C8.pe_gc rfl g__DAYS_OF_100_YEARS)) (pa_cons pe_int pa_nil))))
    (pss_cons (ps_aug (i := 2) sc_date_of.nd rfl (.inl rfl) (pe_op op_mul (pv 3) (C8.pe_gc rfl g__DAYS_OF_100_YEARS)) ip_sub)
    (pss_cons (ps_asg (pe_callB call_divmod (by rfl) z_divmod (by decide +kernel) (pa_cons (pv 2) (pa_cons (C8.pe_gc rfl g__DAYS_OF_4_YEARS) pa_nil))) (pg_tup rfl (pgs_cons (pg_name (i := 4) sc_date_of.nd rfl (.inl rfl)) (pgs_cons (pg_name (i := 2) sc_date_of.nd rfl (.inl rfl)) pgs_nil))))
    (pss_cons (ps_set (i := 5) sc_date_of.nd rfl (.inl rfl) (pe_callB (call_min2 rfl) (by rfl) z_min (by decide +kernel) (pa_cons (pe_op op_fdiv (pv 2) (C8.pe_gc rfl g__DAYS_OF_YEAR)) (pa_cons pe_int pa_nil))))
    (pss_cons (ps_aug (i := 2) sc_date_of.nd rfl (.inl rfl) (pe_op op_mul (pv 5) (C8.pe_gc rfl g__DAYS_OF_YEAR)) ip_sub)
    (pss_cons (ps_set (i := 6) sc_date_of.nd rfl (.inl rfl) (pe_op op_add (pe_op op_add (pe_op op_add (pe_op op_add (pe_op op_mul pe_int (pv 1)) (pe_op op_mul pe_int (pv 3))) (pe_op op_mul pe_int (pv 4))) (pv 5)) pe_int))
    (pss_cons (ps_set (i := 7) sc_date_of.nd rfl (.inl rfl) pe_int)
    (pss_cons (ps_while PassesOwn.never (pt_cmpR op_ge (pv 2) (C8.pe_c c_month_length hr (by decide) (by rfl) (pa_cons (pv 6) (pa_cons (pv 7) pa_nil))) (nomark _))
      (pss_cons (ps_aug (i := 2) sc_date_of.nd rfl (.inl rfl) (C8.pe_c c_month_length hr (by decide) (by rfl) (pa_cons (pv 6) (pa_cons (pv 7) pa_nil))) ip_sub)
    (pss_one (ps_aug (i := 7) sc_date_of.nd rfl (.inl rfl) pe_int ip_add))))
    (pss_one (ps_ret (pe_tup (pa_cons (pv 6) (pa_cons (pv 7) (pa_cons (pe_op op_add (pv 2) pe_int) pa_nil))))))))))))))), ?_⟩
  obtain ⟨d, rfl, hd, q⟩ := h
  refine q_asgG (eu_divmod (i := d - -719162) (j := 146097) (ev_op (ev_var rfl) ev_c rv_I0) ev_c ⟨by decide, by decide⟩) fun p H1 hp e1 h1 => gt2 (st_of h1) ?_
  refine q_asg (v := .int (if (3 : Int) < (d - -719162) % 146097 / 36524 then 3 else (d - -719162) % 146097 / 36524)) (ev_min2 (ev_op (ev_var rfl) ev_c (rv_I ⟨by decide, by decide⟩)) ev_c) fun H2 e2 => ?_
  generalize hc : (if (3 : Int) < (d - -719162) % 146097 / 36524 then (3 : Int) else (d - -719162) % 146097 / 36524) = c
  have c0 : 0 ≤ c ∧ c ≤ 3 := by rw [← hc]; split <;> omega
  refine q_aug (a := (d - -719162) % 146097) (b := c * 36524) rfl (ev_op (ev_var rfl) ev_c (rv_I (.inr ⟨by decide, by decide⟩))) fun H3 e3 => ?_
  refine q_asgG (eu_divmod (i := (d - -719162) % 146097 - c * 36524) (j := 1461) (ev_var rfl) ev_c ⟨by decide, by decide⟩) fun p2 H4 hp2 e4 h4 => gt2 (st_of h4) ?_
  generalize hf : ((d - -719162) % 146097 - c * 36524) / 1461 = f
  generalize hr2 : ((d - -719162) % 146097 - c * 36524) % 1461 = r2
  refine q_asg (v := .int (if (3 : Int) < r2 / 365 then 3 else r2 / 365)) (ev_min2 (ev_op (ev_var rfl) ev_c (rv_I ⟨by decide, by decide⟩)) ev_c) fun H5 e5 => ?_
  generalize hg : (if (3 : Int) < r2 / 365 then (3 : Int) else r2 / 365) = g
  have g0 : 0 ≤ g ∧ g ≤ 3 := by rw [← hg]; split <;> omega
  refine q_aug (a := r2) (b := g * 365) rfl (ev_op (ev_var rfl) ev_c (rv_I (.inr ⟨by decide, by decide⟩))) fun H6 e6 => ?_
  refine q_asg (v := .int (400 * ((d - -719162) / 146097) + 100 * c + 4 * f + g + 1)) (by walk_at "ev") fun H7 e7 => ?_
  have hp := parts (D := d - -719162) (c := (d - -719162) / 146097) (h := c) (f := f) (g := g) (r := r2 - g * 365) (by omega) (by omega) c0
    (by rw [← hf]; rw [← hc]; split <;> omega) g0 (by rw [← hg]; split <;> omega) (by rw [← hc] at *; split at hc <;> (rw [← hg]; split <;> omega))
  generalize hy : 400 * ((d - -719162) / 146097) + 100 * c + 4 * f + g + 1 = y at *
  generalize hr3 : r2 - g * 365 = r at *
  obtain ⟨p1, p2', p3, p4⟩ := hp
  have r0 : 0 ≤ r := by rw [← hr3, ← hg]; split <;> omega
  have y9 : y ≤ 9999 := by
    refine Int.not_lt.mp fun z => ?_
    have := yst_mono (show 10000 ≤ y from z)
    rw [show yst 10000 = 3652059 by decide] at this
    omega
  refine q_asg ev_c fun H8 e8 => ?_
  have x8 := ((((((e1.trans e2).trans e3).trans e4).trans e5).trans e6).trans e7).trans e8
  refine q_while (fun n σ H' => ∃ k : Nat, n = 12 - k ∧ k ≤ 11 ∧ cumN y k ≤ r ∧ σ = [some (.int d), some (.int ((d - -719162) / 146097)), some (.int (r - cumN y k)), some (.int c), some (.int f), some (.int g), some (.int y), some (.int ((k : Int) + 1))] ∧ Ex H H') 12
    ⟨0, rfl, by decide, r0, by show _ = [_, _, some (V.int (r - 0)), _, _, _, _, _]; rw [Int.sub_zero]; rfl, x8⟩ fun n σ H' hw => ?_
  obtain ⟨k, rfl, hk, hck, rfl, e9⟩ := hw
  refine ⟨decide (mlen y ((k : Int) + 1) ≤ r - cumN y k), et_test (ev_op (ev_var rfl) (ec_mlen (ev_var rfl) (ev_var rfl) (by omega)) rv_I0), fun hb H1' e1' => ?_, fun hb H1' e1' => ?_⟩
  · have hb' := of_decide_eq_true hb
    have hc1 : cumN y (k + 1) ≤ r := by show cumN y k + mlen y ((k : Int) + 1) ≤ r; omega
    have hk1 : k + 1 ≤ 11 := by
      rcases Nat.lt_or_ge k 11 with z | z
      · omega
      · have ek : k = 11 := by omega
        subst ek
        have z2 : cumN y 12 ≤ r := hc1
        omega
    refine ⟨_, fun σ2 H2' hN => hN, ?_⟩
    refine q_aug (a := r - cumN y k) (b := mlen y ((k : Int) + 1)) rfl (ec_mlen (ev_var rfl) (ev_var rfl) (by omega)) fun H2' e2' => ?_
    refine s_aug (a := (k : Int) + 1) (b := 1) rfl ev_c fun H3' e3' => ⟨12 - (k + 1), by omega, k + 1, rfl, hk1, hc1, ?_, ((e9.trans e1').trans e2').trans e3'⟩
    show _ = [_, _, some (V.int (r - (cumN y k + mlen y ((k : Int) + 1)))), _, _, _, _, some (V.int (((k + 1 : Nat) : Int) + 1))]
    rw [← Int.sub_sub, Int.natCast_add]
    rfl
  · have hb' := of_decide_eq_false hb
    have hD : isD y ((k : Int) + 1) (r - cumN y k + 1) := ⟨⟨p3, y9⟩, ⟨by omega, by omega⟩, by omega, by omega⟩
    have he : dayN y ((k : Int) + 1) (r - cumN y k + 1) = d := by
      unfold dayN
      rw [show ((k : Int) + 1 - 1).toNat = k by omega]
      omega
    refine s_retU (xs := tri (dt d)) ?_ fun p H2' hp' e2' h2' => q p H2' ?_ ((e9.trans e1').trans e2') h2'
    · rw [dt_eq hD he]
      exact eu_tup (ea_cons (ev_var rfl) (ea_cons (ev_var rfl) (ea_cons (ev_op (ev_var rfl) ev_c rv_I0) ea_nil))) (by show 3 ≤ 100000; decide)
    · exact fresh_back (e9.trans e1') hp'
end

namespace Dg
/-! ### texts as lists of codes: further words -/
theorem c48 : PySem.Str.ofString "0" = SX.S [48] := by decide +kernel
theorem c45 : PySem.Str.ofString "-" = SX.S [45] := by decide +kernel
theorem c46 : PySem.Str.ofString "." = SX.S [46] := by decide +kernel
theorem c00 : PySem.Str.ofString "" = SX.S [] := by decide +kernel
theorem mt_ljustF {X : Cx} : MtR X "str.ljust" fun x xs H Q => ∃ (a f : Str) (i : Int), x = .str a ∧ xs = [.int i, .str f] ∧ PadOk i = true ∧ f.length = 1 ∧ Q (.str (Txt.ljustF a i (f.cps.getD 0 0))) H := by
  intro pins s σ H x xs v us Q I rx rv h
  obtain ⟨a, f, i, rfl, rfl, hp, hf, q⟩ := h
  obtain ⟨t, rfl⟩ := (show ∃ t, v = Value.str a t from rx)
  cases rv with
  | cons r1 rv =>
    cases rv with
    | cons r2 rv =>
      cases rv
      obtain ⟨u, rfl⟩ := r1
      obtain ⟨u2, rfl⟩ := r2
      exact ljust_fill hp hf fun t' k => ⟨.str _, H, I.tok k, ⟨t', rfl⟩, q⟩
section
variable {K : PySem.W.Frag} {σ : L2.St} {H : Hp} {D : Ends} {te ta tl th tb : TE}
theorem ev_m0 {r : V → List V → Hp → VK → Prop} {a : Str} {z : V} (h : Ev ta σ H (.str a)) (hr : ∀ H1 Q, (∀ H2, Ex H1 H2 → Q z H2) → r (.str a) [] H1 Q) : Ev (tM0 r ta) σ H z := fun H1 e Q q => h H1 e _ fun H2 e2 => ⟨⟨_, rfl⟩, hr H2 Q fun H3 e3 => q H3 (e2.trans e3)⟩
theorem ev_m1 {r : V → List V → Hp → VK → Prop} {a : Str} {y z : V} (h : Ev ta σ H (.str a)) (hb : Ev tb σ H y) (hr : ∀ H1 Q, (∀ H2, Ex H1 H2 → Q z H2) → r (.str a) [y] H1 Q) : Ev (tM1 r ta tb) σ H z := fun H1 e Q q =>
  h H1 e _ fun H2 e2 => ⟨⟨_, rfl⟩, hb H2 (e.trans e2) _ fun H3 e3 => hr H3 Q fun H4 e4 => q H4 ((e2.trans e3).trans e4)⟩
theorem ev_bmS {r : V → List V → Hp → VK → Prop} {a : Str} {z : V} {tr : TA} {ys : List V} (h : Ev ta σ H (.str a)) (hb : EvA tr σ H ys) (hr : ∀ H1 Q, (∀ H2, Ex H1 H2 → Q z H2) → r (.str a) ys H1 Q) : Ev (tBM K "str" r ta tr) σ H z := fun H1 e Q q =>
  h H1 e _ fun H2 e2 => ⟨rfl, hb H2 (e.trans e2) _ fun H3 e3 => hr H3 Q fun H4 e4 => q H4 ((e2.trans e3).trans e4)⟩
theorem ev_intS {a : Str} {n : Int} (h : Ev ta σ H (.str a)) (hn : intText? a = some n) (hl : a.length ≤ 640) : Ev (tCB (fun xs H Q => ∃ a n, xs = [.str a] ∧ intText? a = some n ∧ a.length ≤ 640 ∧ Q (.int n) H) (tCons ta tNil)) σ H (.int n) := fun H1 e Q q =>
  h H1 e _ fun H2 e2 => ⟨a, n, rfl, hn, hl, q H2 e2⟩
theorem ev_slF {to : TO} {l : List Nat} {i : Nat} (ha : Ev ta σ H (.str (SX.S l))) (hl : Ev tl σ H (.int (i : Int))) (hn : ∀ σ H Q, Q none H → to σ H Q) (hz : l.length ≤ 100000) : Ev (tSl C8.rSlX ta (tPart tl) to) σ H (.str (SX.S (l.drop i))) := fun H1 e Q q =>
  ha H1 e _ fun H2 e2 => hl H2 (e.trans e2) _ fun H3 e3 => ⟨_, rfl, hn _ _ _ ⟨SX.S l, rfl, by rw [SX.S_len]; exact sz_of hz, by rw [SX.slice_from (by omega), Int.toNat_natCast]; exact q H3 (e2.trans e3)⟩⟩
theorem eu_part {a b : Str} (ha : Ev ta σ H (.str a)) (hb : Ev tb σ H (.str b)) (h1 : (b.length == 0) = false) (hz : a.length ≤ 100000) : EvU (tM1 (fun x xs H Q => ∃ a b, x = .str a ∧ xs = [.str b] ∧ (b.length == 0) = false ∧ a.length ≤ sizeLine ∧ ∀ p, H p = none → Q (.ref p) (upd H p (.tup [.str (Txt.partition a b).1, .str (Txt.partition a b).2.1, .str (Txt.partition a b).2.2]))) ta tb) σ H [.str (Txt.partition a b).1, .str (Txt.partition a b).2.1, .str (Txt.partition a b).2.2] := fun H1 e Q q =>
  ha H1 e _ fun H2 e2 => ⟨⟨_, rfl⟩, hb H2 (e.trans e2) _ fun H3 e3 => ⟨a, b, rfl, rfl, h1, sz_of hz, fun p hp => q p _ (fresh_back (e2.trans e3) hp) ((e2.trans e3).trans (Ex.new hp)) upd_same⟩⟩
end
theorem js_str {t : TE} {ts : List TE} {acc y : Str} {σ : L2.St} {H : Hp} {Q : Str → Hp → Prop} (h : Ev t σ H (.str y)) (hz : (acc ++ y).length ≤ 100000) (k : ∀ H1, Ex H H1 → tJs ts (acc ++ y) σ H1 Q) : tJs (t :: ts) acc σ H Q := h H (Ex.refl H) _ fun H1 e1 => ⟨y, rfl, sz_of hz, k H1 e1⟩
theorem pre1 {c : Nat} {l : List Nat} {i : Nat} : TL.pre [c] (l.drop i) = true ↔ l[i]? = some c := by
  by_cases h : i < l.length
  · rw [List.drop_eq_getElem_cons h, List.getElem?_eq_getElem h]
    constructor
    · intro e
      by_cases e2 : l[i] = c
      · rw [e2]
      · rw [TL.pre_of_head [] _ e2] at e
        exact nomatch e
    · intro e
      rw [Option.some.inj e]
      exact TL.pre_self [c] _
  · rw [List.drop_eq_nil_of_le (by omega), List.getElem?_eq_none (by omega), TL.pre_nil (List.cons_ne_nil _ _)]
    simp
theorem find1 (l : List Nat) (c : Nat) : (Txt.find (SX.S l) (SX.S [c]) = -1 ∧ ∀ i : Nat, ¬ l[i]? = some c) ∨ ∃ i : Nat, Txt.find (SX.S l) (SX.S [c]) = (i : Int) ∧ l[i]? = some c ∧ ∀ k : Nat, k < i → ¬ l[k]? = some c := by
  have ha : ∀ i, StrLaws.At (SX.S l) (SX.S [c]) (SX.S l).length i ↔ l[i]? = some c := fun i => by
    rw [TL.at_iff (by rw [tl_S]; exact List.cons_ne_nil _ _), tl_S, tl_S, pre1]
  rcases StrLaws.occ_head (SX.S l) (SX.S [c]) 1 (Nat.le_refl 1) with ⟨h1, h2⟩ | ⟨i, r, h1, h2, h3⟩
  · refine .inl ⟨?_, fun i h => h2 i ((ha i).mpr h)⟩
    unfold Txt.find
    rw [h1]
  · refine .inr ⟨i, ?_, (ha i).mp h2, fun k hk h => h3 k hk ((ha k).mpr h)⟩
    unfold Txt.find
    rw [h1]
def tenL : List Nat := [48, 49, 50, 51, 52, 53, 54, 55, 56, 57]
theorem cTen : PySem.Str.ofString "0123456789" = SX.S tenL := by decide +kernel
theorem ten_at {i : Nat} (h : i < 10) : tenL[i]? = some (48 + i) := by
  have : ∀ i : Fin 10, tenL[i.1]? = some (48 + i.1) := by decide
  exact this ⟨i, h⟩
theorem ten_in {i c : Nat} (h : tenL[i]? = some c) : c = 48 + i ∧ i < 10 := by
  have hi : i < 10 := (List.getElem?_eq_some_iff.mp h).1
  rw [ten_at hi] at h
  exact ⟨(Option.some.inj h).symm, hi⟩
theorem find_ten (c : Nat) : (isD c = false ∧ Txt.find (SX.S tenL) (SX.S [c]) = -1) ∨ (isD c = true ∧ Txt.find (SX.S tenL) (SX.S [c]) = ((c - 48 : Nat) : Int)) := by
  rcases find1 tenL c with ⟨h1, h2⟩ | ⟨i, h1, h2, _⟩
  · refine .inl ⟨?_, h1⟩
    cases h : isD c with
    | false => rfl
    | true =>
      unfold isD at h
      rw [Bool.and_eq_true, decide_eq_true_eq, decide_eq_true_eq] at h
      exact absurd (by rw [ten_at (by omega), show 48 + (c - 48) = c by omega]) (h2 (c - 48))
  · obtain ⟨e, hi⟩ := ten_in h2
    refine .inr ⟨?_, by rw [h1, show c - 48 = i by omega]⟩
    unfold isD
    rw [decide_eq_true (by omega), decide_eq_true (by omega)]
    rfl
section
variable {σ : L2.St} {H : Hp} {ta tb tl : TE} {K : PySem.W.Frag}
theorem ev_ixN {xs : List V} {i : Int} {v : V} (ha : EvL ta σ H xs) (hb : Ev tb σ H (.int i)) (hi : atI xs i = some v) : Ev (tOp (rIxL K) ta tb) σ H v := fun H1 e Q q =>
  ha H1 e _ fun p H2 hp e2 h2 => hb H2 (e.trans e2) _ fun H3 e3 => rv_ixL (sq_of (e3 _ _ h2)) hi H3 (Ex.refl H3) Q fun H4 e4 => q H4 ((e2.trans e3).trans e4)
theorem ev_ten {i : Nat} (h : i < 10) (hb : Ev tb σ H (.int (i : Int))) : Ev (tOp rIxS (tC (.str (PySem.Str.ofString "0123456789"))) tb) σ H (.str (SX.S [48 + i])) :=
  ev_op (x := .str (SX.S tenL)) (ev_is ev_c (by rw [cTen])) hb (rv_ixS (by decide) (atI_nat (ten_at h)))
theorem ev_slT {to : TO} {l : List Nat} {i : Nat} (ha : Ev ta σ H (.str (SX.S l))) (hn : ∀ σ H Q, Q none H → to σ H Q) (hl : Ev tl σ H (.int (i : Int))) (hz : l.length ≤ 100000) : Ev (tSl C8.rSlX ta to (tPart tl)) σ H (.str (SX.S (l.take i))) := fun H1 e Q q =>
  ha H1 e _ fun H2 e2 => hn _ _ _ (hl H2 (e.trans e2) _ fun H3 e3 => ⟨_, rfl, SX.S l, rfl, by rw [SX.S_len]; exact sz_of hz, by rw [SX.slice_to (by omega), Int.toNat_natCast]; exact q H3 (e2.trans e3)⟩)
end
theorem ev_lenX {σ : L2.St} {H : Hp} {ta : TE} {w : List Nat} (ha : Ev ta σ H (.str (SX.S w))) (hz : w.length ≤ 100000) : Ev (tCB (fun xs H Q => ∃ z, xs = [.str z] ∧ z.length ≤ sizeLine ∧ Q (.int z.length) H) (tCons ta tNil)) σ H (.int (w.length : Int)) :=
  ev_is (ev_lenS ha (by rw [SX.S_len]; exact hz)) (by rw [SX.S_len])
section
variable {K : PySem.W.Frag} {σ : L2.St} {H : Hp} {ta tb : TE}
theorem ev_cat {a b : Str} (ha : Ev ta σ H (.str a)) (hb : Ev tb σ H (.str b)) (h : a.length + b.length ≤ 100000) : Ev (tOp (fun x y H Q => ∃ i j, x = .str i ∧ y = .str j ∧ i.length + j.length ≤ sizeLine ∧ Q (.str (i ++ j)) H) ta tb) σ H (.str (a ++ b)) := fun H1 e Q q =>
  ha H1 e _ fun H2 e2 => hb H2 (e.trans e2) _ fun H3 e3 => ⟨a, b, rfl, rfl, sz_of h, q H3 (e2.trans e3)⟩
end
section
variable {σ : L2.St} {H : Hp} {D : Ends} {tz : TS} {te : TE}
theorem q_forX {tu : TS} {j : Nat} {w : List Nat} (h : Ev te σ H (.str (SX.S w))) (Pv : Nat → L2.St → Hp → Prop) (h0 : ∀ H1, Ex H H1 → Pv 0 σ H1)
    (hs : ∀ (i : Nat) (c : Nat) σ' H', w[i]? = some c → Pv i σ' H' → tu { nx := Pv (i + 1), rt := D.rt, bk := tz D, ct := Pv (i + 1) } (σ'.set j (some (.str ⟨#[c]⟩))) H')
    (hd : ∀ σ' H', Pv w.length σ' H' → tz D σ' H') : tSeq (tFor (iStr te) (gName j) tu) tz D σ H := by
  have ec : ∀ i, (SX.S w).cps[i]? = w[i]? := fun i => List.getElem?_toArray
  have es : (SX.S w).cps.size = w.length := List.size_toArray
  refine h H (Ex.refl H) _ fun H1 e1 => ⟨SX.S w, rfl, fun i m σ' H' => Pv i σ' H' ∧ i ≤ w.length ∧ w.length - i ≤ m, ⟨_, h0 H1 e1, Nat.zero_le _, Nat.le_refl _⟩, fun i m σ' H' p => ?_⟩
  obtain ⟨p, hi, hm⟩ := p
  by_cases hlt : i < w.length
  · refine .inr ⟨by show i < (SX.S w).cps.size; omega, fun σ2 H2 => Pv (i + 1) σ2 H2, fun σ2 H2 q => ⟨m - 1, by omega, q, hlt, by omega⟩, ?_⟩
    rintro x H2 ⟨rfl, c, hc, rfl⟩
    rw [ec] at hc
    exact hs i c σ' _ hc p
  · refine .inl ⟨by show (SX.S w).cps.size ≤ i; omega, ?_⟩
    rw [show i = w.length by omega] at p
    exact hd _ _ p
theorem q_callG {sp : Sp} {dvs vs : List V} {E : XK} {tr : TA} {g : TG} (h : EvA tr σ H vs) (k : ∀ H1, Ex H H1 → sp (vs ++ dvs) H1 (fun x H2 => g x σ H2 (tz D)) E) : tSeq (tAsg (tCall sp dvs E tr) g) tz D σ H := h H (Ex.refl H) _ fun H1 e1 => k H1 e1
end
theorem slice_mid {a : List Nat} {i j : Nat} (h : i ≤ j) (hj : j ≤ a.length) : Txt.slice (SX.S a) (some (i : Int)) (some (j : Int)) = SX.S ((a.drop i).take (j - i)) := by
  rw [← C8.cutS_slice]
  unfold cutS
  rw [SX.S_len, HT.sIx_nat, HT.sIx_nat, Nat.min_eq_left hj, Nat.min_eq_left (show i ≤ a.length by omega)]
theorem ev_slM {σ : L2.St} {H : Hp} {ta tl th : TE} {l : List Nat} {i j : Nat} (ha : Ev ta σ H (.str (SX.S l))) (hl : Ev tl σ H (.int (i : Int))) (hh : Ev th σ H (.int (j : Int))) (h : i ≤ j) (hj : j ≤ l.length) (hz : l.length ≤ 100000) : Ev (tSl C8.rSlX ta (tPart tl) (tPart th)) σ H (.str (SX.S ((l.drop i).take (j - i)))) := fun H1 e Q q =>
  ha H1 e _ fun H2 e2 => hl H2 (e.trans e2) _ fun H3 e3 => ⟨_, rfl, hh H3 ((e.trans e2).trans e3) _ fun H4 e4 => ⟨_, rfl, SX.S l, rfl, by rw [SX.S_len]; exact sz_of hz, by rw [slice_mid h hj]; exact q H4 ((e2.trans e3).trans e4)⟩⟩
theorem q_par2 {σ : L2.St} {H : Hp} {ta : TA} {D : Ends} {tz : TS} {i j : Nat} {x y : V} (h : EvA ta σ H [x, y]) (k : ∀ H1, Ex H H1 → tz D ((σ.set i (some x)).set j (some y)) H1) : tSeq (tPar i j ta) tz D σ H := h H (Ex.refl H) _ fun H1 e => ⟨x, y, rfl, k H1 e⟩
theorem q_par3 {σ : L2.St} {H : Hp} {ta : TA} {D : Ends} {tz : TS} {i j l : Nat} {x y z : V} (h : EvA ta σ H [x, y, z]) (k : ∀ H1, Ex H H1 → tz D (((σ.set i (some x)).set j (some y)).set l (some z)) H1) : tSeq (tPar3 i j l ta) tz D σ H := h H (Ex.refl H) _ fun H1 e => ⟨x, y, z, rfl, k H1 e⟩

end Dg
def sp__law_is_integer (K : PySem.W.Frag) : Sp := fun vs H Q _ => ∃ x : V, vs = [x] ∧ Pl x ∧ ∀ H', Ex H H' → Q (.bl (isInt x)) H'
section
variable {P : Program} {w : World} {K : PySem.W.Frag} {mg : Str → Option Value} {base : Heap}
theorem ok__law_is_integer (D : Dn K mg "_law_is_integer" s__law_is_integer ["value"]) (z_bool : mg "bool" = none) (z_int : mg "int" = none) (z_isinstance : mg "isinstance" = none) :
    C8.Cal P w K mg base 1 "_law_is_integer" (sp__law_is_integer K) [] := by
  refine cal_of D sc__law_is_integer (fun vs H Q E h => ?_) (fun f cdv A outer s H vs Q E hr h => ?_)
  · obtain ⟨_, rfl, _⟩ := h
    rfl
  refine ⟨_, (pss_one (ps_ret (pe_and (pe_callB call_isi (by rfl) z_isinstance (by decide +kernel) (pa_cons (pv 0) (pa_cons (pe_bltn (v := .ty "int") (u := .type "int") rfl z_int (by decide +kernel) rfl) pa_nil))) (pe_one (pe_not (pe_callB call_isi (by rfl) z_isinstance (by decide +kernel) (pa_cons (pv 0) (pa_cons (pe_bltn (v := .ty "bool") (u := .type "bool") rfl z_bool (by decide +kernel) rfl) pa_nil)))))))), ?_⟩
  obtain ⟨x, rfl, hx, q⟩ := h
  exact s_ret (ev_isInt (ev_var rfl) (ev_var rfl) hx) fun H2 e2 => q _ e2
section
variable {σ : L2.St} {H : Hp} {ta : TE} {E : XK}
theorem ec_isx {x : V} (hx : Pl x) (ha : Ev ta σ H x) : Ev (tCall (sp__law_is_integer K) [] E (tCons ta tNil)) σ H (.bl (isInt x)) := ev_call (ea_cons ha ea_nil) fun H1 e Q q E => ⟨x, rfl, hx, q⟩
theorem ec_isint {n : Int} (ha : Ev ta σ H (.int n)) : Ev (tCall (sp__law_is_integer K) [] E (tCons ta tNil)) σ H (.bl true) := ec_isx (.int n) ha
end
end

/-! ### dates as texts -/
open Dg hiding isD
def lowL : Nat → Nat → List Nat
  | 0, _ => []
  | k + 1, n => (48 + n / 10 ^ k % 10) :: lowL k n
theorem lowL_len (n : Nat) : ∀ k, (lowL k n).length = k
  | 0 => rfl
  | k + 1 => by rw [lowL, List.length_cons, lowL_len n k]
theorem lowL_dig (n : Nat) : ∀ k, (lowL k n).all Dg.isD = true
  | 0 => rfl
  | k + 1 => by
    rw [lowL, List.all_cons, lowL_dig n k, Bool.and_true]
    unfold Dg.isD
    rw [decide_eq_true (by omega), decide_eq_true (by omega)]
    rfl
theorem lowL_val (n : Nat) : ∀ k, dval (lowL k n) = n % 10 ^ k
  | 0 => by rw [Nat.pow_zero, Nat.mod_one]; rfl
  | k + 1 => by
    rw [lowL, dval_cons, lowL_len, lowL_val n k, Nat.mod_pow_succ, show 48 + n / 10 ^ k % 10 - 48 = n / 10 ^ k % 10 by omega, Nat.mul_comm, Nat.add_comm]
theorem lowL_digs (n k : Nat) : digs (lowL (k + 1) n) = true := by
  unfold digs
  rw [lowL_dig]
  rfl
theorem zdig_num (W n : Nat) : zdig W n = List.replicate (W - (TL.numL n).length) 48 ++ TL.numL n := by
  have e : TL.numL n = (Nat.toDigits 10 n).map Char.toNat := rfl
  unfold zdig
  rw [e, List.length_map]
theorem zdig4 {n : Nat} (h : n < 10000) : zdig 4 n = lowL 4 n := by
  rw [zdig_num, numL_pad h]
  show [48 + n / 1000, 48 + n / 100 % 10, 48 + n / 10 % 10, 48 + n % 10] = [48 + n / 10 ^ 3 % 10, 48 + n / 10 ^ 2 % 10, 48 + n / 10 ^ 1 % 10, 48 + n / 10 ^ 0 % 10]
  rw [show n / 10 ^ 3 % 10 = n / 1000 by omega, show n / 10 ^ 2 % 10 = n / 100 % 10 by omega, show n / 10 ^ 1 % 10 = n / 10 % 10 by omega, show n / 10 ^ 0 % 10 = n % 10 by omega]
theorem zdig2 {n : Nat} (h : n < 100) : zdig 2 n = lowL 2 n := by
  rw [zdig_num]
  show _ = [48 + n / 10 ^ 1 % 10, 48 + n / 10 ^ 0 % 10]
  rw [show n / 10 ^ 1 % 10 = n / 10 by omega, show n / 10 ^ 0 % 10 = n % 10 by omega]
  by_cases h1 : n < 10
  · rw [TL.numL_lt h1, show n / 10 = 0 by omega, show n % 10 = n by omega]
    rfl
  · rw [TL.numL_step (by omega), TL.numL_lt (by omega)]
    rfl
noncomputable def dtx3 (d : Int) : List Nat := lowL 4 (dt d).1.toNat ++ ([45] ++ (lowL 2 (dt d).2.1.toNat ++ ([45] ++ lowL 2 (dt d).2.2.toNat)))
theorem dtx3_len (d : Int) : (dtx3 d).length = 10 := by
  unfold dtx3
  rw [List.length_append, List.length_append, List.length_append, List.length_append, lowL_len, lowL_len, lowL_len]
  rfl
/-- what is read of a text -/
def rdOk (l : List Nat) : Prop := l.length = 10 ∧ l.getD 4 0 = 45 ∧ l.getD 7 0 = 45
instance (l : List Nat) : Decidable (rdOk l) := by unfold rdOk; exact inferInstance
def p1 (l : List Nat) : List Nat := l.take 4
def p2 (l : List Nat) : List Nat := (l.drop 5).take 2
def p3 (l : List Nat) : List Nat := l.drop 8
def rd3 (l : List Nat) : V := if rdOk l ∧ digs (p1 l) = true ∧ digs (p2 l) = true ∧ digs (p3 l) = true then dayV (dval (p1 l) : Nat) (dval (p2 l) : Nat) (dval (p3 l) : Nat) else .non
theorem rd3_pl (l : List Nat) : rd3 l = .non ∨ ∃ i : Int, rd3 l = .int i := by
  unfold rd3 dayV
  split
  · split
    · exact .inr ⟨_, rfl⟩
    · exact .inl rfl
  · exact .inl rfl
theorem rd3_dtx {d : Int} (h : -719162 ≤ d ∧ d ≤ 2932896) : rd3 (dtx3 d) = .int d := by
  obtain ⟨hD, hd⟩ := dt_ok h
  have ml := mlen_in (y := (dt d).1) hD.2.1
  obtain ⟨⟨y0, y1⟩, ⟨m0, m1⟩, d0, d1⟩ := _root_.id hD
  have e1 : p1 (dtx3 d) = lowL 4 (dt d).1.toNat := by
    unfold p1 dtx3
    rw [List.take_append_of_le_length (by rw [lowL_len]; omega), List.take_of_length_le (by rw [lowL_len]; omega)]
  have e2 : p2 (dtx3 d) = lowL 2 (dt d).2.1.toNat := rfl
  have e3 : p3 (dtx3 d) = lowL 2 (dt d).2.2.toNat := rfl
  have hk : rdOk (dtx3 d) := ⟨dtx3_len d, rfl, rfl⟩
  unfold rd3
  rw [e1, e2, e3, if_pos ⟨hk, lowL_digs _ _, lowL_digs _ _, lowL_digs _ _⟩, lowL_val, lowL_val, lowL_val, Nat.mod_eq_of_lt (by omega), Nat.mod_eq_of_lt (by omega), Nat.mod_eq_of_lt (by omega)]
  rw [Int.toNat_of_nonneg (by omega), Int.toNat_of_nonneg (by omega), Int.toNat_of_nonneg (by omega)]
  unfold dayV
  rw [if_pos hD, hd]
def sp_is_digits (K : PySem.W.Frag) : Sp := fun vs H Q _ => ∃ l : List Nat, vs = [.str (SX.S l)] ∧ ∀ H', Ex H H' → Q (.bl (digs l)) H'
def sp_date_text (K : PySem.W.Frag) : Sp := fun vs H Q _ => ∃ d : Int, vs = [.int d] ∧ (-719162 ≤ d ∧ d ≤ 2932896) ∧ ∀ H', Ex H H' → Q (.str (SX.S (dtx3 d))) H'
def sp_read_date (K : PySem.W.Frag) : Sp := fun vs H Q _ => ∃ l : List Nat, vs = [.str (SX.S l)] ∧ l.length ≤ 200 ∧ ∀ H', Ex H H' → Q (rd3 l) H'
def sp__law_digits (K : PySem.W.Frag) : Sp := fun vs H Q _ => ∃ n z : Nat, vs = [.int (n : Int), .int (z : Int)] ∧ z ≤ 100 ∧ ∀ H', Ex H H' → Q (.str (SX.S (lowL z n))) H'
def sp__law_expected (K : PySem.W.Frag) : Sp := fun vs H Q _ => ∃ l : List Nat, vs = [.str (SX.S l)] ∧ l.length ≤ 200 ∧ ∀ H', Ex H H' → Q (rd3 l) H'
def sp__law_changed (K : PySem.W.Frag) : Sp := fun vs H Q _ => ∃ (l s : List Nat) (c : Int) (i : Nat), vs = [.str (SX.S l), .int c, .int (i : Int), .str (SX.S s)] ∧ l.length ≤ 50 ∧ s.length ≤ 50 ∧ ∀ (w : List Nat) H', w.length ≤ 200 → Ex H H' → Q (.str (SX.S w)) H'
def sp_law (K : PySem.W.Frag) : Sp := fun vs H Q _ => ∃ (a : Addr) (ns : List Int), vs = [.ref a] ∧ SqL K H a (ns.map V.int) ∧ ns.length ≤ 63 ∧ ∀ H', Q (.bl true) H'
theorem sp_law_of {K : PySem.W.Frag} {H : Hp} {a : Addr} {ns : List Int} (hl : ns.length ≤ 63) (hS : SqL K H a (ns.map V.int)) : sp_law K [.ref a] H (fun v _ => v = .bl true) fun _ _ _ => False :=
  ⟨a, ns, rfl, hS, hl, fun _ => rfl⟩
section
variable {P : Program} {w : World} {K : PySem.W.Frag} {mg : Str → Option Value} {base : Heap}
theorem ok_is_digits (D : Dn K mg "is_digits" s_is_digits ["text"]) :
    C8.Cal P w K mg base 1 "is_digits" (sp_is_digits K) [] := by
  refine cal_of D sc_is_digits (fun vs H Q E h => ?_) (fun f cdv A outer s H vs Q E hr h => ?_)
  · obtain ⟨_, rfl, _⟩ := h
    rfl
  refine ⟨_, (pss_one (ps_ret (pe_and (pe_m0 PySem.F.slot_str_isdigit PySem.F.type_str_isdigit mt_isdigit (pv 0) ) (pe_one (pe_m0 PySem.F.slot_str_isascii PySem.F.type_str_isascii mt_isascii (pv 0) ))))), ?_⟩
  obtain ⟨l, rfl, q⟩ := h
  refine s_ret (v := .bl (digs l)) (ev_is (v := .bl (Txt.isdigit (SX.S l) && Txt.isascii (SX.S l))) (ev_andV (ev_m0 (ev_var rfl) fun H1 Q q => ⟨_, rfl, rfl, trivial, q H1 (Ex.refl H1)⟩) fun _ => ev_m0 (ev_var rfl) fun H1 Q q => ⟨_, rfl, rfl, trivial, q H1 (Ex.refl H1)⟩) (by rw [digs_txt])) fun H1 e1 => q H1 e1
section
variable {σ : L2.St} {H : Hp} {ta tb tc td te : TE} {E : XK}
theorem ec_digs {l : List Nat} (ha : Ev ta σ H (.str (SX.S l))) : Ev (tCall (sp_is_digits K) [] E (tCons ta tNil)) σ H (.bl (digs l)) := ev_call (ea_cons ha ea_nil) fun H1 e Q q E => ⟨l, rfl, q⟩
theorem ec_dtx {d : Int} (ha : Ev ta σ H (.int d)) (h : -719162 ≤ d ∧ d ≤ 2932896) : Ev (tCall (sp_date_text K) [] E (tCons ta tNil)) σ H (.str (SX.S (dtx3 d))) := ev_call (ea_cons ha ea_nil) fun H1 e Q q E => ⟨d, rfl, h, q⟩
theorem ec_rd3 {l : List Nat} (ha : Ev ta σ H (.str (SX.S l))) (h : l.length ≤ 200) : Ev (tCall (sp_read_date K) [] E (tCons ta tNil)) σ H (rd3 l) := ev_call (ea_cons ha ea_nil) fun H1 e Q q E => ⟨l, rfl, h, q⟩
theorem ec_exp {l : List Nat} (ha : Ev ta σ H (.str (SX.S l))) (h : l.length ≤ 200) : Ev (tCall (sp__law_expected K) [] E (tCons ta tNil)) σ H (rd3 l) := ev_call (ea_cons ha ea_nil) fun H1 e Q q E => ⟨l, rfl, h, q⟩
theorem ec_ldg {n z : Nat} (ha : Ev ta σ H (.int (n : Int))) (hb : Ev tb σ H (.int (z : Int))) (hz : z ≤ 100) : Ev (tCall (sp__law_digits K) [] E (tCons ta (tCons tb tNil))) σ H (.str (SX.S (lowL z n))) := ev_call (ea_cons ha (ea_cons hb ea_nil)) fun H1 e Q q E => ⟨n, z, rfl, hz, q⟩
theorem fm_z4 {n : Nat} (h : Ev te σ H (.int (n : Int))) (hn : n < 10000) : Ev (tFmtZ te (tC (.str (Str.ofString "04d")))) σ H (.str (SX.S (lowL 4 n))) := fun H1 e Q q => h H1 e _ fun H2 e2 => ⟨n, rfl, by omega, .inl ⟨rfl, by rw [zdig4 hn]; exact q H2 e2⟩⟩
theorem fm_z2 {n : Nat} (h : Ev te σ H (.int (n : Int))) (hn : n < 100) : Ev (tFmtZ te (tC (.str (Str.ofString "02d")))) σ H (.str (SX.S (lowL 2 n))) := fun H1 e Q q => h H1 e _ fun H2 e2 => ⟨n, rfl, by omega, .inr ⟨rfl, by rw [zdig2 hn]; exact q H2 e2⟩⟩
/-- text[i] beside one sign -/
theorem ev_at {l : List Nat} {i : Nat} (ha : Ev ta σ H (.str (SX.S l))) (hb : Ev tb σ H (.int (i : Int))) (hi : i < l.length) (hz : l.length ≤ 1000) : Ev (tOp rIxS ta tb) σ H (.str ⟨#[l.getD i 0]⟩) :=
  ev_op ha hb (rv_ixS (by rw [SX.S_len]; omega) (atI_nat (by
    show l[i]? = _
    rw [List.getD_eq_getElem?_getD, List.getElem?_eq_getElem hi]
    rfl)))
end
theorem one45 (c : Nat) : decide (V.str ⟨#[c]⟩ = V.str (PySem.Str.ofString "-")) = decide (c = 45) := by
  rw [c45]
  refine decide_eq_decide.mpr ⟨fun e => ?_, fun e => e ▸ rfl⟩
  have e2 : SX.S [c] = SX.S [45] := V.str.inj e
  exact List.head_eq_of_cons_eq (SX.S_inj e2)
/-- the first test of both readers -/
theorem et_first {σ : L2.St} {H : Hp} {l : List Nat} {tl : TE} (hl : Ev tl σ H (.int (l.length : Int))) (h0 : σ[0]? = some (some (.str (SX.S l)))) (hz : l.length ≤ 200) :
    EvT (tOr (tTest (tOp rNe tl (tC (.int 10)))) (tOr (tTest (tOp rNe (tOp rIxS (tVar 0) (tC (.int 4))) (tC (.str (PySem.Str.ofString "-"))))) (tTest (tOp rNe (tOp rIxS (tVar 0) (tC (.int 7))) (tC (.str (PySem.Str.ofString "-"))))))) σ H (!decide (rdOk l)) := by
  refine et_is (et_or (et_test (ev_op hl ev_c (rv_ne rfl))) fun hb => et_or (et_test (ev_op (ev_at (i := 4) (ev_var h0) ev_c ?_ (by omega)) ev_c (rv_ne rfl))) fun _ => et_test (ev_op (ev_at (i := 7) (ev_var h0) ev_c ?_ (by omega)) ev_c (rv_ne rfl))) ?_
  · rw [Bool.not_eq_false', decide_eq_true_eq] at hb
    have := V.int.inj hb
    omega
  · rw [Bool.not_eq_false', decide_eq_true_eq] at hb
    have := V.int.inj hb
    omega
  · rw [one45, one45]
    have e : decide (V.int (l.length : Int) = V.int 10) = decide (l.length = 10) := decide_eq_decide.mpr ⟨fun e => by have := V.int.inj e; omega, fun e => by rw [e]; rfl⟩
    rw [e, ← Bool.not_and, ← Bool.not_and]
    congr 1
    rw [Bool.eq_iff_iff, Bool.and_eq_true, Bool.and_eq_true, decide_eq_true_eq, decide_eq_true_eq, decide_eq_true_eq, decide_eq_true_eq]
    rfl
theorem ok_date_text (D : Dn K mg "date_text" s_date_text ["day"]) (c_date_of : C8.Cal P w K mg base 3 "date_of" (sp_date_of K) []) :
    C8.Cal P w K mg base 4 "date_text" (sp_date_text K) [] := by
  refine cal_of D sc_date_text (fun vs H Q E h => ?_) (fun f cdv A outer s H vs Q E hr h => ?_)
  · obtain ⟨_, rfl, _⟩ := h
    rfl
  refine ⟨_, (pss_cons (ps_asg (C8.pe_c c_date_of hr (by decide) (by rfl) (pa_cons (pv 0) pa_nil)) (pg_tup rfl (pgs_cons (pg_name (i := 1) sc_date_text.nd rfl (.inl rfl)) (pgs_cons (pg_name (i := 2) sc_date_text.nd rfl (.inl rfl)) (pgs_cons (pg_name (i := 3) sc_date_text.nd rfl (.inl rfl)) pgs_nil)))))
    (pss_one (ps_ret (pe_joined (PJ.cons (pe_fmtZ (pv 1) (pe_joined1 pe_str)) (PJ.cons pe_str (PJ.cons (pe_fmtZ (pv 2) (pe_joined1 pe_str)) (PJ.cons pe_str (PJ.cons (pe_fmtZ (pv 3) (pe_joined1 pe_str)) PJ.nil))))))))), ?_⟩
  obtain ⟨d, rfl, hd, q⟩ := h
  obtain ⟨hD, _⟩ := dt_ok hd
  have ml := mlen_in (y := (dt d).1) hD.2.1
  obtain ⟨⟨y0, y1⟩, ⟨m0, m1⟩, d0, d1⟩ := hD
  have hq : dtx3 d = lowL 4 (dt d).1.toNat ++ ([45] ++ (lowL 2 (dt d).2.1.toNat ++ ([45] ++ lowL 2 (dt d).2.2.toNat))) := rfl
  rw [hq] at q
  refine q_asgG (ec_date (ev_var rfl) hd) fun p H1 hp e1 h1 => gt3 (st_of h1) ?_
  obtain ⟨y, hy⟩ := Int.eq_ofNat_of_zero_le (show 0 ≤ (dt d).1 by omega)
  obtain ⟨m, hm⟩ := Int.eq_ofNat_of_zero_le (show 0 ≤ (dt d).2.1 by omega)
  obtain ⟨t, ht⟩ := Int.eq_ofNat_of_zero_le (show 0 ≤ (dt d).2.2 by omega)
  rw [hy] at y0 y1 ml
  rw [hm] at m0 m1
  rw [hy, hm, ht, Int.toNat_natCast, Int.toNat_natCast, Int.toNat_natCast] at q
  have d2 : t < 100 := by rw [ht] at d1; rw [hy, hm] at d1; rw [hm] at ml; omega
  rw [hy, hm, ht]
  have em : ∀ x : Str, Str.empty ++ x = x := fun x => TL.ext_tl (by rw [TL.tl_append]; rfl)
  refine s_ret (v := .str (SX.S (lowL 4 y ++ ([45] ++ (lowL 2 m ++ ([45] ++ lowL 2 t)))))) (fun H4 e4 Q k => ?_) fun H4 e4 => q _ (e1.trans e4)
  have h4 := lowL_len y 4
  have h2 := lowL_len m 2
  have h3 := lowL_len t 2
  refine js_str (fm_z4 (ev_var rfl) (by omega)) (by rw [em, SX.S_len]; omega) fun H5 e5 => js_str (y := SX.S [45]) (ev_is ev_c (by rw [c45])) (by rw [em, SX.S_cat, SX.S_len, List.length_append, h4]; decide) fun H6 e6 => js_str (fm_z2 (ev_var rfl) (by omega)) (by rw [em, SX.S_cat, SX.S_cat, SX.S_len, List.length_append, List.length_append, h4, h2]; decide) fun H7 e7 => js_str (y := SX.S [45]) (ev_is ev_c (by rw [c45])) (by rw [em, SX.S_cat, SX.S_cat, SX.S_cat, SX.S_len, List.length_append, List.length_append, List.length_append, h4, h2]; decide) fun H8 e8 => js_str (fm_z2 (ev_var rfl) (by omega)) (by rw [em, SX.S_cat, SX.S_cat, SX.S_cat, SX.S_cat, SX.S_len, List.length_append, List.length_append, List.length_append, List.length_append, h4, h2, h3]; decide) fun H9 e9 => ?_
  rw [em, SX.S_cat, SX.S_cat, SX.S_cat, SX.S_cat, List.append_assoc, List.append_assoc, List.append_assoc]
  exact k H9 ((((e5.trans e6).trans e7).trans e8).trans e9)
theorem ok_read_date (D : Dn K mg "read_date" s_read_date ["text"]) (c_day_of : C8.Cal P w K mg base 3 "day_of" (sp_day_of K) []) (c_is_digits : C8.Cal P w K mg base 1 "is_digits" (sp_is_digits K) []) (z_int : mg "int" = none) (z_len : mg "len" = none) :
    C8.Cal P w K mg base 4 "read_date" (sp_read_date K) [] := by
  refine cal_of D sc_read_date (fun vs H Q E h => ?_) (fun f cdv A outer s H vs Q E hr h => ?_)
  · obtain ⟨_, rfl, _⟩ := h
    rfl
  refine ⟨_, (pss_cons (ps_if (PW.pt (pw_or (pt_cmpR op_ne (pe_callB call_len_str (by rfl) z_len PySem.boot_len (pa_cons (pv 0) pa_nil)) pe_int (nomark _)) (pw_or (pt_cmpR op_ne (pe_ix ix_str (pv 0) pe_int (fun _ _ => rfl)) pe_str (nomark _)) (pw_or1 (pt_cmpR op_ne (pe_ix ix_str (pv 0) pe_int (fun _ _ => rfl)) pe_str (nomark _))))))
      (pss_one (ps_ret pe_non))
      pss_nil)
    (pss_cons (ps_par3 (i := 1) (j := 2) (l := 3) (by rfl) sc_read_date.nd rfl rfl rfl (by decide) (by decide) (by decide) rfl rfl rfl (pa_cons (pe_slice C8.sl_txt (pv 0) po_none (po_some pe_int)) (pa_cons (pe_slice C8.sl_txt (pv 0) (po_some pe_int) (po_some pe_int)) (pa_cons (pe_slice C8.sl_txt (pv 0) (po_some pe_int) po_none) pa_nil))) (by rfl))
    (pss_cons (ps_if (pt_not (PW.pt (pw_and (pt_val (C8.pe_c c_is_digits hr (by decide) (by rfl) (pa_cons (pv 1) pa_nil))) (pw_and (pt_val (C8.pe_c c_is_digits hr (by decide) (by rfl) (pa_cons (pv 2) pa_nil))) (pw_and1 (pt_val (C8.pe_c c_is_digits hr (by decide) (by rfl) (pa_cons (pv 3) pa_nil))))))))
      (pss_one (ps_ret pe_non))
      pss_nil)
    (pss_one (ps_ret (C8.pe_c c_day_of hr (by decide) (by rfl) (pa_cons (pe_callTy call_int_str (by rfl) z_int (by decide +kernel) (pa_cons (pv 1) pa_nil)) (pa_cons (pe_callTy call_int_str (by rfl) z_int (by decide +kernel) (pa_cons (pv 2) pa_nil)) (pa_cons (pe_callTy call_int_str (by rfl) z_int (by decide +kernel) (pa_cons (pv 3) pa_nil)) pa_nil))))))))), ?_⟩
  obtain ⟨l, rfl, hz, q⟩ := h
  refine q_when (et_first (ev_lenX (ev_var rfl) (by omega)) rfl hz) (fun hb H1 e1 => ?_) fun hb H1 e1 => ?_
  · refine s_ret (v := rd3 l) (ev_is ev_c ?_) fun H2 e2 => q _ (e1.trans e2)
    unfold rd3
    rw [if_neg]
    intro z
    rw [decide_eq_true z.1] at hb
    exact nomatch hb
  rw [Bool.not_eq_false', decide_eq_true_eq] at hb
  have hl := hb.1
  refine q_par3 (x := .str (SX.S (p1 l))) (y := .str (SX.S (p2 l))) (z := .str (SX.S (p3 l))) (ea_cons (ev_slT (i := 4) (ev_var rfl) (fun _ _ _ q => q) ev_c (by omega)) (ea_cons (ev_slM (i := 5) (j := 7) (ev_var rfl) ev_c ev_c (by omega) (by omega) (by omega)) (ea_cons (ev_slF (i := 8) (ev_var rfl) ev_c (fun _ _ _ q => q) (by omega)) ea_nil))) fun H2 e2 => ?_
  have x2 := e1.trans e2
  have l1 : (p1 l).length ≤ 10 := by unfold p1; rw [List.length_take]; omega
  have l2 : (p2 l).length ≤ 10 := by unfold p2; rw [List.length_take]; omega
  have l3 : (p3 l).length ≤ 10 := by unfold p3; rw [List.length_drop]; omega
  refine q_when (b := !(digs (p1 l) && (digs (p2 l) && digs (p3 l)))) (et_not (et_and (et_B (ec_digs (ev_var rfl))) fun _ => et_and (et_B (ec_digs (ev_var rfl))) fun _ => et_B (ec_digs (ev_var rfl)))) (fun hc H3 e3 => ?_) fun hc H3 e3 => ?_
  · refine s_ret (v := rd3 l) (ev_is ev_c ?_) fun H4 e4 => q _ ((x2.trans e3).trans e4)
    unfold rd3
    rw [if_neg]
    rintro ⟨_, z1, z2, z3⟩
    rw [z1, z2, z3] at hc
    exact nomatch hc
  rw [Bool.not_eq_false', Bool.and_eq_true, Bool.and_eq_true] at hc
  have hi : ∀ {x : List Nat}, digs x = true → x.length ≤ 10 → intText? (SX.S x) = some ((dval x : Nat) : Int) := fun hx hxl => by
    unfold digs at hx
    rw [Bool.and_eq_true, Bool.not_eq_true'] at hx
    exact SX.int_S hx.2 (fun e => by rw [e] at hx; exact nomatch hx.1) (by omega)
  refine s_ret (v := rd3 l) (ev_is (ec_day (ev_intS (ev_var rfl) (hi hc.1 l1) (by rw [SX.S_len]; omega)) (ev_intS (ev_var rfl) (hi hc.2.1 l2) (by rw [SX.S_len]; omega)) (ev_intS (ev_var rfl) (hi hc.2.2 l3) (by rw [SX.S_len]; omega))) ?_) fun H4 e4 => q _ ((x2.trans e3).trans e4)
  unfold rd3
  rw [if_pos ⟨hb, hc⟩]
theorem ok__law_digits (D : Dn K mg "_law_digits" s__law_digits ["number", "size"]) (z_int : mg "int" = none) (z_range : mg "range" = none) :
    C8.Cal P w K mg base 1 "_law_digits" (sp__law_digits K) [] := by
  refine cal_of D sc__law_digits (fun vs H Q E h => ?_) (fun f cdv A outer s H vs Q E hr h => ?_)
  · obtain ⟨_, _, rfl, _⟩ := h
    rfl
  refine ⟨_, (pss_cons (ps_set (i := 2) sc__law_digits.nd rfl (.inl rfl) pe_str)
    (pss_cons (ps_for PassesOwn.never rfl (pi_range1 rfl z_range (pa_cons (pv 1) pa_nil)) (pg_name (i := 3) sc__law_digits.nd rfl (.inl rfl))
      (pss_cons (ps_set (i := 2) sc__law_digits.nd rfl (.inl rfl) (pe_op op_add_str (pe_ix ix_str pe_str (pe_op op_mod (pe_callTy call_int1 (by rfl) z_int (by decide +kernel) (pa_cons (pv 0) pa_nil)) pe_int) (fun _ _ => rfl)) (pv 2)))
    (pss_one (ps_set (i := 0) sc__law_digits.nd rfl (.inl rfl) (pe_op op_fdiv (pv 0) pe_int)))))
    (pss_one (ps_ret (pv 2))))), ?_⟩
  obtain ⟨n, z, rfl, hz, q⟩ := h
  refine q_asg (v := .str (SX.S [])) (ev_is ev_c (by rw [c00])) fun H1 e1 => ?_
  refine q_forR1 (n := (z : Int)) (ea_cons (ev_var rfl) ea_nil) ⟨by omega, by omega⟩
    (fun i σ H' => ∃ (y3 : Option V), σ = [some (.int ((n / 10 ^ i : Nat) : Int)), some (.int (z : Int)), some (.str (SX.S (lowL i n))), y3] ∧ Ex H H')
    (fun H2 e2 => ⟨none, ?_, e1.trans e2⟩) (fun i σ' H' hi hw => ?_) (fun σ' H' hw => ?_)
  · rw [Nat.pow_zero, Nat.div_one]
    rfl
  · obtain ⟨y3, rfl, x2⟩ := hw
    have hl := lowL_len n i
    refine q_asg (v := .str (SX.S (lowL (i + 1) n))) (ev_is (ev_cat (ev_ten (i := n / 10 ^ i % 10) (by omega) (ev_is (v := .int (((n / 10 ^ i : Nat) : Int) % 10)) (by walk_at "ev") (by congr 1))) (ev_var rfl) (by rw [SX.S_len, SX.S_len]; show 1 + _ ≤ _; omega)) (by rw [SX.S_cat]; rfl)) fun H3 e3 => ?_
    refine s_asg (v := .int ((n / 10 ^ (i + 1) : Nat) : Int)) (ev_is (v := .int (((n / 10 ^ i : Nat) : Int) / 10)) (by walk_at "ev") ?_) fun H4 e4 => ⟨_, rfl, (x2.trans e3).trans e4⟩
    rw [Nat.pow_succ, ← Nat.div_div_eq_div_mul]
    congr 1
  · obtain ⟨y3, rfl, x2⟩ := hw
    rw [Int.toNat_natCast]
    exact s_ret (ev_var rfl) fun H3 e3 => q _ (x2.trans e3)
theorem ok__law_expected (D : Dn K mg "_law_expected" s__law_expected ["text"]) (c_day_of : C8.Cal P w K mg base 3 "day_of" (sp_day_of K) []) (z_len : mg "len" = none) :
    C8.Cal P w K mg base 4 "_law_expected" (sp__law_expected K) [] := by
  refine cal_of D sc__law_expected (fun vs H Q E h => ?_) (fun f cdv A outer s H vs Q E hr h => ?_)
  · obtain ⟨_, rfl, _⟩ := h
    rfl
  refine ⟨_, (pss_cons (ps_if (PW.pt (pw_or (pt_cmpR op_ne (pe_callB call_len_str (by rfl) z_len PySem.boot_len (pa_cons (pv 0) pa_nil)) pe_int (nomark _)) (pw_or (pt_cmpR op_ne (pe_ix ix_str (pv 0) pe_int (fun _ _ => rfl)) pe_str (nomark _)) (pw_or1 (pt_cmpR op_ne (pe_ix ix_str (pv 0) pe_int (fun _ _ => rfl)) pe_str (nomark _))))))
      (pss_one (ps_ret pe_non))
      pss_nil)
    (pss_cons (ps_set (i := 1) sc__law_expected.nd rfl (.inl rfl) (pe_lst pa_nil))
    (pss_cons (ps_for PassesOwn.never rfl (pi_list (pe_lst (pa_cons (pe_slice C8.sl_txt (pv 0) (po_some pe_int) (po_some pe_int)) (pa_cons (pe_slice C8.sl_txt (pv 0) (po_some pe_int) (po_some pe_int)) (pa_cons (pe_slice C8.sl_txt (pv 0) (po_some pe_int) (po_some pe_int)) pa_nil))))) (pg_name (i := 2) sc__law_expected.nd rfl (.inl rfl))
      (pss_cons (ps_set (i := 3) sc__law_expected.nd rfl (.inl rfl) pe_int)
    (pss_cons (ps_for PassesOwn.never rfl (pi_str (pv 2)) (pg_name (i := 4) sc__law_expected.nd rfl (.inl rfl))
      (pss_cons (ps_set (i := 5) sc__law_expected.nd rfl (.inl rfl) (pe_m1 PySem.F.slot_str_find PySem.F.type_str_find mt_find pe_str (pv 4)))
    (pss_cons (ps_if (pt_cmpR op_lt (pv 5) pe_int (nomark _))
      (pss_one (ps_ret pe_non))
      pss_nil)
    (pss_one (ps_set (i := 3) sc__law_expected.nd rfl (.inl rfl) (pe_op op_add (pe_op op_mul pe_int (pv 3)) (pv 5)))))))
    (pss_one (ps_expr (pe_bm PySem.F.plainAttrs_list PySem.F.slot_list_append PySem.F.type_list_append mt_append (pv 1) (pa_cons (pv 3) pa_nil)))))))
    (pss_one (ps_ret (C8.pe_c c_day_of hr (by decide) (by rfl) (pa_cons (pe_ix ix_list (pv 1) pe_int (fun _ _ => rfl)) (pa_cons (pe_ix ix_list (pv 1) pe_int (fun _ _ => rfl)) (pa_cons (pe_ix ix_list (pv 1) pe_int (fun _ _ => rfl)) pa_nil))))))))), ?_⟩
  obtain ⟨l, rfl, hz, q⟩ := h
  refine q_when (et_first (ev_lenX (ev_var rfl) (by omega)) rfl hz) (fun hb H1 e1 => ?_) fun hb H1 e1 => ?_
  · refine s_ret (v := rd3 l) (ev_is ev_c ?_) fun H2 e2 => q _ (e1.trans e2)
    unfold rd3
    rw [if_neg]
    intro z
    rw [decide_eq_true z.1] at hb
    exact nomatch hb
  rw [Bool.not_eq_false', decide_eq_true_eq] at hb
  have hl := hb.1
  have l1 : (p1 l).length = 4 := by unfold p1; rw [List.length_take]; omega
  have l2 : (p2 l).length = 2 := by unfold p2; rw [List.length_take, List.length_drop]; omega
  have l3 : (p3 l).length = 2 := by unfold p3; rw [List.length_drop]; omega
  have e1' : (l.drop 0).take (4 - 0) = p1 l := rfl
  have e3' : (l.drop 8).take (10 - 8) = p3 l := List.take_of_length_le (by rw [List.length_drop]; omega)
  have hdg : ∀ {x : List Nat}, x.length ≠ 0 → digs x = x.all Dg.isD := fun {x} hx => by
    cases x with
    | nil => exact absurd rfl hx
    | cons _ _ => rfl
  refine q_asgL (el_lst ea_nil (by decide)) fun pn H2 hpn e2 h2 => ?_
  have x2 := e1.trans e2
  generalize hps : [p1 l, p2 l, p3 l] = ps at *
  have hpl : ∀ x ∈ ps, 2 ≤ x.length ∧ x.length ≤ 4 := by
    subst hps
    intro x hx
    simp only [List.mem_cons, List.not_mem_nil, or_false] at hx
    rcases hx with h | h | h <;> subst h <;> omega
  have hall : rd3 l = if ∀ x ∈ ps, x.all Dg.isD = true then dayV (dval (p1 l) : Nat) (dval (p2 l) : Nat) (dval (p3 l) : Nat) else .non := by
    subst hps
    unfold rd3
    rw [hdg (by omega), hdg (by omega), hdg (by omega)]
    by_cases hc : rdOk l ∧ (p1 l).all Dg.isD = true ∧ (p2 l).all Dg.isD = true ∧ (p3 l).all Dg.isD = true
    · rw [if_pos hc, if_pos]
      intro x hx
      simp only [List.mem_cons, List.not_mem_nil, or_false] at hx
      rcases hx with h | h | h <;> subst h
      · exact hc.2.1
      · exact hc.2.2.1
      · exact hc.2.2.2
    · rw [if_neg hc, if_neg]
      intro z
      exact hc ⟨hb, z _ (by simp), z _ (by simp), z _ (by simp)⟩
  refine q_forNLn (xs := ps.map fun x => V.str (SX.S x)) ?_ (fun p i σ' H' => ∃ v2 v3 v4 v5, σ' = [some (.str (SX.S l)), some (.ref pn), v2, v3, v4, v5] ∧ Ex H1 H' ∧ (p ≠ pn) ∧ H' p = some (.lst (ps.map fun x => V.str (SX.S x))) ∧ H' pn = some (.lst ((ps.take i).map fun x => V.int (dval x : Nat))) ∧ ∀ x ∈ ps.take i, x.all Dg.isD = true)
    (fun p H3 hp e3 h3 => ⟨none, none, none, none, rfl, e2.trans e3, (by intro z; rw [z, h2] at hp; exact nomatch hp), h3, e3 _ _ h2, fun x hx => by cases hx⟩) (fun p i σ' H' _ pv => ?_) (fun p i x σ' H' hx pv => ?_) fun p σ' H' pv => ?_
  · subst hps
    refine el_lst (ea_cons (ev_is (ev_slM (i := 0) (j := 4) (ev_var rfl) ev_c ev_c (by omega) (by omega) (by omega)) (by rw [e1'])) (ea_cons (ev_slM (i := 5) (j := 7) (ev_var rfl) ev_c ev_c (by omega) (by omega) (by omega)) (ea_cons (ev_is (ev_slM (i := 8) (j := 10) (ev_var rfl) ev_c ev_c (by omega) (by omega) (by omega)) (by rw [e3'])) ea_nil))) (by show 3 ≤ 100000; decide)
  · obtain ⟨v2, v3, v4, v5, es, e3, hne, h3, h4, hd⟩ := pv
    exact sq_of h3
  · obtain ⟨v2, v3, v4, v5, es, e3, hne, h3, h4, hd⟩ := pv
    subst es
    rw [List.getElem?_map] at hx
    cases hpi : ps[i]? with
    | none => rw [hpi] at hx; cases hx
    | some pt =>
    rw [hpi] at hx
    have ex : x = .str (SX.S pt) := (Option.some.inj hx).symm
    subst ex
    have hpm := hpl pt (List.mem_of_getElem? hpi)
    have ht : ps.take (i + 1) = ps.take i ++ [pt] := by rw [List.take_add_one, hpi]; rfl
    refine q_asg (v := .int ((0 : Nat) : Int)) ev_c fun H4 e4 => ?_
    refine q_forX (w := pt) (ev_var rfl) (fun k σ H5 => ∃ v4 v5, σ = [some (.str (SX.S l)), some (.ref pn), some (.str (SX.S pt)), some (.int ((dval (pt.take k) : Nat) : Int)), v4, v5] ∧ Ex H' H5 ∧ (pt.take k).all Dg.isD = true)
      (fun H5 e5 => ⟨v4, v5, rfl, e4.trans e5, rfl⟩) (fun k c σ' H5 hc hw => ?_) (fun σ' H5 hw => ?_)
    · obtain ⟨v4, v5, rfl, x5, hd5⟩ := hw
      have htk : pt.take (k + 1) = pt.take k ++ [c] := by rw [List.take_add_one, hc]; rfl
      refine q_asg (v := .int (Txt.find (SX.S tenL) (SX.S [c]))) (ev_is (ev_m1 (a := SX.S tenL) (ev_is ev_c (by rw [cTen])) (ev_var rfl) fun H1 Q q => ⟨_, SX.S [c], rfl, rfl, q H1 (Ex.refl H1)⟩) rfl) fun H6 e6 => ?_
      rcases find_ten c with ⟨hD, hf⟩ | ⟨hD, hf⟩
      · rw [hf]
        refine q_when (b := decide ((-1 : Int) < 0)) (by walk_at "et") (fun hb H7 e7 => s_ret (v := .non) ev_c fun H8 e8 => ?_) (fun hb => nomatch hb)
        have q2 := q _ (((((e1.trans e3).trans x5).trans e6).trans e7).trans e8)
        rw [hall, if_neg] at q2
        · exact q2
        · intro h
          have := List.all_eq_true.mp (h pt (List.mem_of_getElem? hpi)) c (List.mem_of_getElem? hc)
          rw [hD] at this
          exact nomatch this
      · rw [hf]
        refine q_when (b := decide (((c - 48 : Nat) : Int) < 0)) (by walk_at "et") (fun hb => absurd (of_decide_eq_true hb) (by omega)) (fun hb H7 e7 => ?_)
        refine s_asg (v := .int ((dval (pt.take (k + 1)) : Nat) : Int)) ?_ fun H8 e8 => ⟨_, _, rfl, ((x5.trans e6).trans e7).trans e8, by rw [htk, List.all_append, hd5]; show (Dg.isD c && true) = true; rw [hD]; rfl⟩
        refine ev_is (v := .int (10 * ((dval (pt.take k) : Nat) : Int) + ((c - 48 : Nat) : Int))) (by walk_at "ev") ?_
        rw [htk, dval_app]
        show _ = V.int ((dval (pt.take k) * 10 ^ 1 + (0 * 10 + (c - 48)) : Nat) : Int)
        congr 1
        omega
    · obtain ⟨v4, v5, rfl, x5, hd5⟩ := hw
      rw [List.take_length] at hd5 ⊢
      have hln : ((ps.take i).map fun x => V.int (dval x : Nat)).length < 100000 := by
        rw [List.length_map, List.length_take]
        have : ps.length = 3 := by rw [← hps]; rfl
        omega
      refine s_app (x5 _ _ h4) (ev_var rfl) (ev_var rfl) hln fun H6 e6 => ⟨_, _, _, _, rfl, ?_, hne, ?_, ?_, ?_⟩
      · exact Ex.mut ((e3.trans x5).trans e6) hpn
      · rw [upd_ne hne]
        exact e6 _ _ (x5 _ _ h3)
      · rw [upd_same, ht, List.map_append]
        rfl
      · rw [ht]
        intro y hy
        rcases List.mem_append.mp hy with h | h
        · exact hd y h
        · rw [List.mem_singleton.mp h]
          exact hd5
  · obtain ⟨v2, v3, v4, v5, es, e3, hne, h3, h4, hd⟩ := pv
    subst es
    rw [List.length_map, List.take_length] at h4 hd
    rw [hall, if_pos hd] at q
    subst hps
    exact s_ret (ec_day (ev_op (ev_var rfl) ev_c (rv_ixL (sq_of h4) rfl)) (ev_op (ev_var rfl) ev_c (rv_ixL (sq_of h4) rfl)) (ev_op (ev_var rfl) ev_c (rv_ixL (sq_of h4) rfl))) fun H5 e5 => q _ ((e1.trans e3).trans e5)
theorem ok__law_changed (D : Dn K mg "_law_changed" s__law_changed ["text", "choice", "at", "sign"]) :
    C8.Cal P w K mg base 1 "_law_changed" (sp__law_changed K) [] := by
  refine cal_of D sc__law_changed (fun vs H Q E h => ?_) (fun f cdv A outer s H vs Q E hr h => ?_)
  · obtain ⟨_, _, _, _, rfl, _⟩ := h
    rfl
  refine ⟨_, (pss_cons (ps_if (pt_cmpR op_eq (pv 1) pe_int (nomark _))
      (pss_one (ps_ret (pe_op op_add_str (pe_slice C8.sl_txt (pv 0) po_none (po_some (pv 2))) (pe_slice C8.sl_txt (pv 0) (po_some (pe_op op_add (pv 2) pe_int)) po_none))))
      pss_nil)
    (pss_cons (ps_if (pt_cmpR op_eq (pv 1) pe_int (nomark _))
      (pss_one (ps_ret (pe_op op_add_str (pe_op op_add_str (pe_slice C8.sl_txt (pv 0) po_none (po_some (pv 2))) (pv 3)) (pe_slice C8.sl_txt (pv 0) (po_some (pv 2)) po_none))))
      pss_nil)
    (pss_cons (ps_if (pt_cmpR op_eq (pv 1) pe_int (nomark _))
      (pss_one (ps_ret (pe_op op_add_str (pe_op op_add_str (pe_slice C8.sl_txt (pv 0) po_none (po_some (pv 2))) (pv 3)) (pe_slice C8.sl_txt (pv 0) (po_some (pe_op op_add (pv 2) pe_int)) po_none))))
      pss_nil)
    (pss_one (ps_ret (pv 0)))))), ?_⟩
  obtain ⟨l, s, c, i, rfl, hl, hs, q⟩ := h
  have t1 : (l.take i).length ≤ 50 := by rw [List.length_take]; omega
  have t2 : (l.drop i).length ≤ 50 := by rw [List.length_drop]; omega
  have t3 : (l.drop (i + 1)).length ≤ 50 := by rw [List.length_drop]; omega
  have ha : ∀ {H : Hp} {tx : TE}, Ev (tSl C8.rSlX (tVar 0) tNoPart (tPart (tVar 2))) [some (.str (SX.S l)), some (.int c), some (.int (i : Int)), some (.str (SX.S s))] H (.str (SX.S (l.take i))) := fun {H tx} => ev_slT (i := i) (ev_var rfl) (fun _ _ _ q => q) (ev_var rfl) (by omega)
  have hb : ∀ {H : Hp}, Ev (tSl C8.rSlX (tVar 0) (tPart (tOp (rI0 fun i j => .int (i + j)) (tVar 2) (tC (.int 1)))) tNoPart) [some (.str (SX.S l)), some (.int c), some (.int (i : Int)), some (.str (SX.S s))] H (.str (SX.S (l.drop (i + 1)))) := fun {H} => ev_slF (i := i + 1) (ev_var rfl) (ev_is (ev_op (ev_var rfl) ev_c rv_I0) (by congr 1)) (fun _ _ _ q => q) (by omega)
  have hc : ∀ {H : Hp}, Ev (tSl C8.rSlX (tVar 0) (tPart (tVar 2)) tNoPart) [some (.str (SX.S l)), some (.int c), some (.int (i : Int)), some (.str (SX.S s))] H (.str (SX.S (l.drop i))) := fun {H} => ev_slF (i := i) (ev_var rfl) (ev_var rfl) (fun _ _ _ q => q) (by omega)
  refine q_when (b := decide (V.int c = V.int 1)) (by walk_at "et") (fun _ H1 e1 => ?_) fun _ H1 e1 => ?_
  · exact s_ret (ev_is (ev_cat (ha (tx := tVar 0)) hb (by rw [SX.S_len, SX.S_len]; omega)) (by rw [SX.S_cat])) fun H2 e2 => q _ _ (by rw [List.length_append]; omega) (e1.trans e2)
  refine q_when (b := decide (V.int c = V.int 2)) (by walk_at "et") (fun _ H2 e2 => ?_) fun _ H2 e2 => ?_
  · exact s_ret (ev_is (ev_cat (a := SX.S (l.take i ++ s)) (ev_is (ev_cat (ha (tx := tVar 0)) (ev_var rfl) (by rw [SX.S_len, SX.S_len]; omega)) (by rw [SX.S_cat])) hc (by rw [SX.S_len, SX.S_len, List.length_append]; omega)) (by rw [SX.S_cat])) fun H3 e3 => q _ _ (by rw [List.length_append, List.length_append]; omega) ((e1.trans e2).trans e3)
  refine q_when (b := decide (V.int c = V.int 3)) (by walk_at "et") (fun _ H3 e3 => ?_) fun _ H3 e3 => ?_
  · exact s_ret (ev_is (ev_cat (a := SX.S (l.take i ++ s)) (ev_is (ev_cat (ha (tx := tVar 0)) (ev_var rfl) (by rw [SX.S_len, SX.S_len]; omega)) (by rw [SX.S_cat])) hb (by rw [SX.S_len, SX.S_len, List.length_append]; omega)) (by rw [SX.S_cat])) fun H4 e4 => q _ _ (by rw [List.length_append, List.length_append]; omega) (((e1.trans e2).trans e3).trans e4)
  exact s_ret (ev_var rfl) fun H4 e4 => q _ _ (by omega) (((e1.trans e2).trans e3).trans e4)
theorem en_changed {σ : L2.St} {H : Hp} {ta tb tc td : TE} {E : XK} {l s : List Nat} {c : Int} {i : Nat} {D : Ends} {tz : TS} {j : Nat} (ha : Ev ta σ H (.str (SX.S l))) (hb : Ev tb σ H (.int c)) (hc : Ev tc σ H (.int (i : Int))) (hd : Ev td σ H (.str (SX.S s))) (h1 : l.length ≤ 50) (h2 : s.length ≤ 50)
    (k : ∀ (w : List Nat) H1, w.length ≤ 200 → Ex H H1 → tz D (σ.set j (some (.str (SX.S w)))) H1) : tSeq (tAsg (tCall (sp__law_changed K) [] E (tCons ta (tCons tb (tCons tc (tCons td tNil))))) (gName j)) tz D σ H :=
  ha H (Ex.refl H) _ fun H1 e1 => hb H1 e1 _ fun H2 e2 => hc H2 (e1.trans e2) _ fun H3 e3 => hd H3 ((e1.trans e2).trans e3) _ fun H4 e4 => ⟨l, s, c, i, rfl, h1, h2, fun w H5 hw e5 => k w H5 hw ((((e1.trans e2).trans e3).trans e4).trans e5)⟩
theorem ok_law {f : Addr} {fd : FuncData} (D : C8.Def K mg "law" s_law f fd) (c__law_changed : C8.Cal P w K mg base 1 "_law_changed" (sp__law_changed K) []) (c__law_digits : C8.Cal P w K mg base 1 "_law_digits" (sp__law_digits K) []) (c__law_expected : C8.Cal P w K mg base 4 "_law_expected" (sp__law_expected K) []) (c__law_is_integer : C8.Cal P w K mg base 1 "_law_is_integer" (sp__law_is_integer K) []) (c__law_numbers : C8.Cal P w K mg base 1 "_law_numbers" (sp__law_numbers K) []) (c__law_text : C8.Cal P w K mg base 1 "_law_text" (sp__law_text K) []) (c_date_of : C8.Cal P w K mg base 3 "date_of" (sp_date_of K) []) (c_date_text : C8.Cal P w K mg base 4 "date_text" (sp_date_text K) []) (c_read_date : C8.Cal P w K mg base 4 "read_date" (sp_read_date K) []) (z_int : mg "int" = none) (z_isinstance : mg "isinstance" = none) (z_str : mg "str" = none) :
    FnOk P w K mg base C8.CX0 5 f fd ["script"] (sp_law K) := by
  refine C8.fn0 D.fn sc_law (fun vs H Q E h => ?_) (fun cdv A outer s H vs Q E hr h => ?_)
  · obtain ⟨_, _, rfl, _⟩ := h
    rfl
  refine ⟨_, (pss_cons (ps_set (i := 1) sc_law.nd rfl (.inl rfl) (C8.pe_c c__law_numbers hr (by decide) (by rfl) (pa_cons (pv 0) (pa_cons pe_int pa_nil))))
    (pss_cons (ps_set (i := 2) sc_law.nd rfl (.inl rfl) (pe_ix ix_list (pe_lst (pa_cons (pe_op op_sub (pe_op op_mod (pe_callTy call_int1 (by rfl) z_int (by decide +kernel) (pa_cons (pe_ix ix_list (pv 1) pe_int (fun _ _ => rfl)) pa_nil)) pe_int) pe_int) (pa_cons (pe_un un_neg pe_int) (pa_cons pe_int pa_nil)))) (pe_op op_add (pe_op op_fdiv (pe_op op_mod (pe_callTy call_int1 (by rfl) z_int (by decide +kernel) (pa_cons (pe_ix ix_list (pv 1) pe_int (fun _ _ => rfl)) pa_nil)) pe_int) pe_int) (pe_op op_fdiv (pe_op op_mod (pe_callTy call_int1 (by rfl) z_int (by decide +kernel) (pa_cons (pe_ix ix_list (pv 1) pe_int (fun _ _ => rfl)) pa_nil)) pe_int) pe_int)) (fun _ _ => rfl)))
    (pss_cons (ps_set (i := 3) sc_law.nd rfl (.inl rfl) (C8.pe_c c_date_of hr (by decide) (by rfl) (pa_cons (pv 2) pa_nil)))
    (pss_cons (ps_set (i := 4) sc_law.nd rfl (.inl rfl) (pe_op op_add_str (pe_op op_add_str (pe_op op_add_str (pe_op op_add_str (C8.pe_c c__law_digits hr (by decide) (by rfl) (pa_cons (pe_ix ix_tup (pv 3) pe_int (fun _ _ => rfl)) (pa_cons pe_int pa_nil))) pe_str) (C8.pe_c c__law_digits hr (by decide) (by rfl) (pa_cons (pe_ix ix_tup (pv 3) pe_int (fun _ _ => rfl)) (pa_cons pe_int pa_nil)))) pe_str) (C8.pe_c c__law_digits hr (by decide) (by rfl) (pa_cons (pe_ix ix_tup (pv 3) pe_int (fun _ _ => rfl)) (pa_cons pe_int pa_nil)))))
    (pss_cons (ps_set (i := 5) sc_law.nd rfl (.inl rfl) (C8.pe_c c_date_text hr (by decide) (by rfl) (pa_cons (pv 2) pa_nil)))
    (pss_cons (ps_if (PW.pt (pw_or (pt_not (pt_val (pe_callB call_isi (by rfl) z_isinstance (by decide +kernel) (pa_cons (pv 5) (pa_cons (pe_bltn (v := .ty "str") (u := .type "str") rfl z_str (by decide +kernel) rfl) pa_nil))))) (pw_or (pt_cmpR op_ne (pv 5) (pv 4) (nomark _)) (pw_or1 (pt_cmpR op_ne (C8.pe_c c_read_date hr (by decide) (by rfl) (pa_cons (pv 5) pa_nil)) (pv 2) (nomark _))))))
      (pss_one (ps_ret pe_bl))
      pss_nil)
    (pss_cons (ps_set (i := 6) sc_law.nd rfl (.inl rfl) (C8.pe_c c__law_text hr (by decide) (by rfl) (pa_cons (pe_ix ix_list (pv 1) pe_int (fun _ _ => rfl)) (pa_cons pe_int pa_nil))))
    (Evl.pss_cut (ps_if (pt_cmpR op_eq (pe_op op_mod (pe_op op_fdiv (pe_callTy call_int1 (by rfl) z_int (by decide +kernel) (pa_cons (pe_ix ix_list (pv 1) pe_int (fun _ _ => rfl)) pa_nil)) pe_int) pe_int) pe_int (nomark _))
      (pss_one (ps_set (i := 6) sc_law.nd rfl (.inl rfl) (pe_ix ix_str pe_str (pe_op op_mod (pe_op op_fdiv (pe_callTy call_int1 (by rfl) z_int (by decide +kernel) (pa_cons (pe_ix ix_list (pv 1) pe_int (fun _ _ => rfl)) pa_nil)) pe_int) pe_int) (fun _ _ => rfl))))
      pss_nil)
    (pss_cons (ps_set (i := 7) sc_law.nd rfl (.inl rfl) (C8.pe_c c__law_changed hr (by decide) (by rfl) (pa_cons (pv 4) (pa_cons (pe_op op_mod (pe_callTy call_int1 (by rfl) z_int (by decide +kernel) (pa_cons (pe_ix ix_list (pv 1) pe_int (fun _ _ => rfl)) pa_nil)) pe_int) (pa_cons (pe_op op_mod (pe_op op_fdiv (pe_callTy call_int1 (by rfl) z_int (by decide +kernel) (pa_cons (pe_ix ix_list (pv 1) pe_int (fun _ _ => rfl)) pa_nil)) pe_int) pe_int) (pa_cons (pv 6) pa_nil))))))
    (Evl.pss_cut (ps_if (pt_cmpR op_eq (pe_op op_mod (pe_op op_fdiv (pe_callTy call_int1 (by rfl) z_int (by decide +kernel) (pa_cons (pe_ix ix_list (pv 1) pe_int (fun _ _ => rfl)) pa_nil)) pe_int) pe_int) pe_int (nomark _))
      (pss_one (ps_set (i := 7) sc_law.nd rfl (.inl rfl) (pe_op op_add_str (pe_op op_add_str (pe_op op_add_str (pe_op op_add_str (C8.pe_c c__law_digits hr (by decide) (by rfl) (pa_cons (pe_op op_fdiv (pe_ix ix_list (pv 1) pe_int (fun _ _ => rfl)) pe_int) (pa_cons pe_int pa_nil))) pe_str) (C8.pe_c c__law_digits hr (by decide) (by rfl) (pa_cons (pe_op op_fdiv (pe_ix ix_list (pv 1) pe_int (fun _ _ => rfl)) pe_int) (pa_cons pe_int pa_nil)))) pe_str) (C8.pe_c c__law_digits hr (by decide) (by rfl) (pa_cons (pe_op op_fdiv (pe_ix ix_list (pv 1) pe_int (fun _ _ => rfl)) pe_int) (pa_cons pe_int pa_nil))))))
      pss_nil)
    (pss_cons (ps_set (i := 8) sc_law.nd rfl (.inl rfl) (C8.pe_c c_read_date hr (by decide) (by rfl) (pa_cons (pv 7) pa_nil)))
    (pss_cons (ps_set (i := 9) sc_law.nd rfl (.inl rfl) (C8.pe_c c__law_expected hr (by decide) (by rfl) (pa_cons (pv 7) pa_nil)))
    (pss_cons (ps_if (pt_cmpR op_isN (pv 9) pe_non (nomark _))
      (pss_one (ps_ret (pe_cmpR op_isN (pv 8) pe_non (nomark _))))
      pss_nil)
    (pss_one (ps_ret (pe_and (C8.pe_c c__law_is_integer hr (by decide) (by rfl) (pa_cons (pv 8) pa_nil)) (pe_one (pe_cmpR op_eq (pv 8) (pv 9) (nomark _))))))))))))))))))), ?_⟩
  obtain ⟨a, ns, rfl, hS, h63, q⟩ := h
  refine q_asgL (xs := (lawN ns 4).map V.int) (el_call (ea_cons (ev_var rfl) (ea_cons ev_c ea_nil)) fun H1 e Q q E => ⟨a, ns, 4, rfl, ex_l e hS, h63, by decide, q⟩) fun p1 H1 hp1 e1 h1 => ?_
  have z0 := cellN_nn ns 0
  have z1 := cellN_nn ns 1
  have z2 := cellN_nn ns 2
  have z3 := cellN_nn ns 3
  have g0 : ∀ {σ : L2.St} {H' : Hp}, σ[1]? = some (some (V.ref p1)) → Ex H1 H' → Ev (tOp (rIxL K) (tVar 1) (tC (.int 0))) σ H' (.int (cellN ns 0)) := fun hσ e => ev_op (ev_var hσ) ev_c (rv_ixL (sq_of (e _ _ h1)) (lawN_at (i := 0) (by decide)))
  have g1 : ∀ {σ : L2.St} {H' : Hp}, σ[1]? = some (some (V.ref p1)) → Ex H1 H' → Ev (tOp (rIxL K) (tVar 1) (tC (.int 1))) σ H' (.int (cellN ns 1)) := fun hσ e => ev_op (ev_var hσ) ev_c (rv_ixL (sq_of (e _ _ h1)) (lawN_at (i := 1) (by decide)))
  have g2 : ∀ {σ : L2.St} {H' : Hp}, σ[1]? = some (some (V.ref p1)) → Ex H1 H' → Ev (tOp (rIxL K) (tVar 1) (tC (.int 2))) σ H' (.int (cellN ns 2)) := fun hσ e => ev_op (ev_var hσ) ev_c (rv_ixL (sq_of (e _ _ h1)) (lawN_at (i := 2) (by decide)))
  have g3 : ∀ {σ : L2.St} {H' : Hp}, σ[1]? = some (some (V.ref p1)) → Ex H1 H' → Ev (tOp (rIxL K) (tVar 1) (tC (.int 3))) σ H' (.int (cellN ns 3)) := fun hσ e => ev_op (ev_var hσ) ev_c (rv_ixL (sq_of (e _ _ h1)) (lawN_at (i := 3) (by decide)))
  generalize cellN ns 0 = n0 at g0 z0
  generalize cellN ns 1 = n1 at g1 z1
  generalize cellN ns 2 = n2 at g2 z2
  generalize cellN ns 3 = n3 at g3 z3
  obtain ⟨m0, rfl⟩ := Int.eq_ofNat_of_zero_le z0
  obtain ⟨m1, rfl⟩ := Int.eq_ofNat_of_zero_le z1
  obtain ⟨m2, rfl⟩ := Int.eq_ofNat_of_zero_le z2
  -- the day
  have hix : ∃ d : Int, (-719162 ≤ d ∧ d ≤ 2932896) ∧ atI [V.int ((m0 : Int) % 3652059 - 719162), V.int (-719162), V.int 2932896] ((m1 : Int) % 9 / 7 + (m1 : Int) % 9 / 8) = some (.int d) := by
    have : (m1 : Int) % 9 / 7 + (m1 : Int) % 9 / 8 = 0 ∨ (m1 : Int) % 9 / 7 + (m1 : Int) % 9 / 8 = 1 ∨ (m1 : Int) % 9 / 7 + (m1 : Int) % 9 / 8 = 2 := by omega
    rcases this with h | h | h <;> rw [h]
    · exact ⟨(m0 : Int) % 3652059 - 719162, by omega, rfl⟩
    · exact ⟨-719162, by omega, rfl⟩
    · exact ⟨2932896, by omega, rfl⟩
  obtain ⟨d, hd, hix⟩ := hix
  refine q_asg (v := .int d) (ev_ixN (el_lst (ea_cons (ev_op (ev_op (ev_int (g0 rfl (Ex.refl _))) ev_c (rv_I (by decide))) ev_c rv_I0) (ea_cons (ev_un ev_c ru_neg) (ea_cons ev_c ea_nil))) (by show 3 ≤ 100000; decide)) (ev_op (ev_op (ev_op (ev_int (g1 rfl (Ex.refl _))) ev_c (rv_I (by decide))) ev_c (rv_I ⟨by decide, by decide⟩)) (ev_op (ev_op (ev_int (g1 rfl (Ex.refl _))) ev_c (rv_I (by decide))) ev_c (rv_I ⟨by decide, by decide⟩)) rv_I0) hix) fun H2 e2 => ?_
  refine q_asgU (xs := tri (dt d)) (ec_date (ev_var rfl) hd) fun p2 H3 hp2 e3 h3 => ?_
  obtain ⟨hD, _⟩ := dt_ok hd
  have ml := mlen_in (y := (dt d).1) hD.2.1
  obtain ⟨⟨y0, y1⟩, ⟨q0, q1⟩, t0, t1⟩ := hD
  have hda : ∀ {σ : L2.St} {H' : Hp}, σ[3]? = some (some (V.ref p2)) → Ex H3 H' → Ev (tOp (rIxT K) (tVar 3) (tC (.int 0))) σ H' (.int ((dt d).1.toNat : Int)) := fun hσ e => ev_is (ev_op (ev_var hσ) ev_c (rv_ixT (st_of (e _ _ h3)) rfl)) (by rw [Int.toNat_of_nonneg (by omega)])
  have hdb : ∀ {σ : L2.St} {H' : Hp}, σ[3]? = some (some (V.ref p2)) → Ex H3 H' → Ev (tOp (rIxT K) (tVar 3) (tC (.int 1))) σ H' (.int ((dt d).2.1.toNat : Int)) := fun hσ e => ev_is (ev_op (ev_var hσ) ev_c (rv_ixT (st_of (e _ _ h3)) rfl)) (by rw [Int.toNat_of_nonneg (by omega)])
  have hdc : ∀ {σ : L2.St} {H' : Hp}, σ[3]? = some (some (V.ref p2)) → Ex H3 H' → Ev (tOp (rIxT K) (tVar 3) (tC (.int 2))) σ H' (.int ((dt d).2.2.toNat : Int)) := fun hσ e => ev_is (ev_op (ev_var hσ) ev_c (rv_ixT (st_of (e _ _ h3)) rfl)) (by rw [Int.toNat_of_nonneg (by omega)])
  -- three numbers with lines between
  have hline : ∀ {σ : L2.St} {H' : Hp} {ta tb tc : TE} {E1 E2 E3 : XK} {u v w : Nat}, Ev ta σ H' (.int (u : Int)) → Ev tb σ H' (.int (v : Int)) → Ev tc σ H' (.int (w : Int)) →
      Ev (tOp (fun x y H Q => ∃ i j, x = .str i ∧ y = .str j ∧ i.length + j.length ≤ sizeLine ∧ Q (.str (i ++ j)) H) (tOp (fun x y H Q => ∃ i j, x = .str i ∧ y = .str j ∧ i.length + j.length ≤ sizeLine ∧ Q (.str (i ++ j)) H) (tOp (fun x y H Q => ∃ i j, x = .str i ∧ y = .str j ∧ i.length + j.length ≤ sizeLine ∧ Q (.str (i ++ j)) H) (tOp (fun x y H Q => ∃ i j, x = .str i ∧ y = .str j ∧ i.length + j.length ≤ sizeLine ∧ Q (.str (i ++ j)) H) (tCall (sp__law_digits K) [] E1 (tCons ta (tCons (tC (.int 4)) tNil))) (tC (.str (PySem.Str.ofString "-")))) (tCall (sp__law_digits K) [] E2 (tCons tb (tCons (tC (.int 2)) tNil)))) (tC (.str (PySem.Str.ofString "-")))) (tCall (sp__law_digits K) [] E3 (tCons tc (tCons (tC (.int 2)) tNil)))) σ H' (.str (SX.S (lowL 4 u ++ ([45] ++ (lowL 2 v ++ ([45] ++ lowL 2 w)))))) := fun {σ H' ta tb tc E1 E2 E3 u v w} hu hv hw => by
    have l4 := lowL_len u 4
    have l2 := lowL_len v 2
    have l3 := lowL_len w 2
    have em : lowL 4 u ++ ([45] ++ (lowL 2 v ++ ([45] ++ lowL 2 w))) = (((lowL 4 u ++ [45]) ++ lowL 2 v) ++ [45]) ++ lowL 2 w := by simp
    rw [em, ← SX.S_cat, ← SX.S_cat, ← SX.S_cat, ← SX.S_cat]
    refine ev_cat (ev_cat (ev_cat (ev_cat (ec_ldg (z := 4) hu ev_c (by decide)) (ev_is ev_c (by rw [c45])) ?_) (ec_ldg (z := 2) hv ev_c (by decide)) ?_) (ev_is ev_c (by rw [c45])) ?_) (ec_ldg (z := 2) hw ev_c (by decide)) ?_
    · rw [SX.S_len, SX.S_len, l4]; decide
    · rw [SX.S_cat, SX.S_len, SX.S_len, List.length_append, l4, l2]; decide
    · rw [SX.S_cat, SX.S_cat, SX.S_len, SX.S_len, List.length_append, List.length_append, l4, l2]; decide
    · rw [SX.S_cat, SX.S_cat, SX.S_cat, SX.S_len, SX.S_len, List.length_append, List.length_append, List.length_append, l4, l2, l3]; decide
  have hdx := dtx3_len d
  refine q_asg (v := .str (SX.S (dtx3 d))) (hline (hda rfl (Ex.refl _)) (hdb rfl (Ex.refl _)) (hdc rfl (Ex.refl _))) fun H4 e4 => ?_
  refine q_asg (ec_dtx (ev_var rfl) hd) fun H5 e5 => ?_
  refine q_when (b := !true || (!decide (V.str (SX.S (dtx3 d)) = V.str (SX.S (dtx3 d))) || !decide (V.int d = V.int d))) ?_ (fun hb => by simp at hb) fun _ H6 e6 => ?_
  · refine et_or (et_not (et_B (ev_isi (T := "str") (b := true) (ev_var rfl) (tx_str _) (by decide +kernel)))) fun _ => et_or (et_test (ev_op (ev_var rfl) (ev_var rfl) (rv_ne rfl))) fun _ => ?_
    refine et_test (ev_op (x := .int d) (y := .int d) (ev_is (ec_rd3 (l := dtx3 d) (ev_var rfl) (by omega)) (rd3_dtx hd)) ?_ (rv_ne rfl))
    exact ev_var rfl
  have x6 := (((e2.trans e3).trans e4).trans e5).trans e6
  have hlt : (lawT (m2 : Int) (1 : Int).toNat).length = 1 := by rw [lawT_len]; rfl
  refine q_asg (ec_text (n := (m2 : Int)) (m := 1) (g2 rfl x6) ev_c (by decide) (by decide)) fun H7 e7 => ?_
  have x7 := x6.trans e7
  refine q_cut (M := fun σ H' => ∃ s : List Nat, σ = [some (.ref a), some (.ref p1), some (.int d), some (.ref p2), some (.str (SX.S (dtx3 d))), some (.str (SX.S (dtx3 d))), some (.str (SX.S s)), none, none, none] ∧ Ex H1 H' ∧ s.length ≤ 1) ?_ ?_
  · refine s_when (b := decide (V.int ((m2 : Int) / 5 % 2) = V.int 0)) (et_test (ev_op (ev_op (ev_op (ev_int (g2 rfl x7)) ev_c (rv_I ⟨by decide, by decide⟩)) ev_c (rv_I (by decide))) ev_c (rv_eq rfl))) (fun _ H8 e8 => ?_) (fun _ H8 e8 => ⟨_, rfl, x7.trans e8, by omega⟩)
    have hsg : SX.S (tenL ++ [45]) = PySem.Str.ofString "0123456789-" := by decide +kernel
    have hi : m2 / 10 % 11 < (tenL ++ [45]).length := Nat.mod_lt _ (by decide)
    refine s_asg (v := .str (SX.S [(tenL ++ [45]).getD (m2 / 10 % 11) 0])) (ev_at (l := tenL ++ [45]) (i := m2 / 10 % 11) (ev_is ev_c (by rw [hsg])) (ev_is (v := .int ((m2 : Int) / 10 % 11)) (ev_op (ev_op (ev_int (g2 rfl (x7.trans e8))) ev_c (rv_I ⟨by decide, by decide⟩)) ev_c (rv_I (by decide))) (by congr 1)) hi (by decide)) fun H9 e9 => ⟨_, rfl, (x7.trans e8).trans e9, Nat.le_refl 1⟩
  rintro σ' H8 ⟨s, rfl, x8, hs⟩
  have r3 : 0 ≤ n3 / 4 % 11 := by omega
  refine en_changed (l := dtx3 d) (s := s) (c := n3 % 4) (i := (n3 / 4 % 11).toNat) (ev_var rfl) (ev_op (ev_int (g3 rfl x8)) ev_c (rv_I (by decide))) (ev_is (v := .int (n3 / 4 % 11)) (ev_op (ev_op (ev_int (g3 rfl x8)) ev_c (rv_I ⟨by decide, by decide⟩)) ev_c (rv_I (by decide))) (by rw [Int.toNat_of_nonneg r3])) (ev_var rfl) (by omega) (by omega) fun w0 H9 hw0 e9 => ?_
  have x9 := x8.trans e9
  refine q_cut (M := fun σ H' => ∃ w : List Nat, σ = [some (.ref a), some (.ref p1), some (.int d), some (.ref p2), some (.str (SX.S (dtx3 d))), some (.str (SX.S (dtx3 d))), some (.str (SX.S s)), some (.str (SX.S w)), none, none] ∧ Ex H1 H' ∧ w.length ≤ 200) ?_ ?_
  · refine s_when (b := decide (V.int (n3 / 44 % 4) = V.int 0)) (et_test (ev_op (ev_op (ev_op (ev_int (g3 rfl x9)) ev_c (rv_I ⟨by decide, by decide⟩)) ev_c (rv_I (by decide))) ev_c (rv_eq rfl))) (fun _ Ha ea => ?_) (fun _ Ha ea => ⟨_, rfl, x9.trans ea, hw0⟩)
    have xa := x9.trans ea
    refine s_asg (hline (u := m0 / 3) (v := m1 / 9) (w := m2 / 7) (ev_is (v := .int ((m0 : Int) / 3)) (ev_op (g0 rfl xa) ev_c (rv_I ⟨by decide, by decide⟩)) (by congr 1)) (ev_is (v := .int ((m1 : Int) / 9)) (ev_op (g1 rfl xa) ev_c (rv_I ⟨by decide, by decide⟩)) (by congr 1)) (ev_is (v := .int ((m2 : Int) / 7)) (ev_op (g2 rfl xa) ev_c (rv_I ⟨by decide, by decide⟩)) (by congr 1))) fun Hb eb => ⟨_, rfl, xa.trans eb, ?_⟩
    rw [List.length_append, List.length_append, List.length_append, List.length_append, lowL_len, lowL_len, lowL_len]
    decide
  rintro σ' Ha ⟨w, rfl, xa, hw⟩
  refine q_asg (ec_rd3 (ev_var rfl) hw) fun Hb eb => ?_
  refine q_asg (ec_exp (ev_var rfl) hw) fun Hc ec => ?_
  rcases rd3_pl w with hr | ⟨i, hr⟩
  · rw [hr]
    exact q_when (b := decide (V.non = V.non)) (et_test (ev_op (ev_var rfl) ev_c rv_isN)) (fun _ Hd ed => s_ret (v := .bl true) (ev_op (ev_var rfl) ev_c rv_isN) fun He ee => q He) fun hb => by simp at hb
  · rw [hr]
    refine q_when (b := decide (V.int i = V.non)) (et_test (ev_op (ev_var rfl) ev_c rv_isN)) (fun hb => by simp at hb) fun _ Hd ed => ?_
    refine s_ret (v := .bl true) (ev_is (ev_andV (ec_isint (ev_var rfl)) fun _ => ev_op (ev_var rfl) (ev_var rfl) (rv_eq rfl)) ?_) fun He ee => q He
    simp
end
theorem all_mk {P : Program} {w : World} {K : PySem.W.Frag} {h : Heap} {mg : Str → Option Value} {fa : Addr} (X : K.In h) (G : h.Ns mainGlobals mg) (hfa : mg "law" = some (.ref fa))
    {f0 : Addr} {od0 an0 : Option Addr} {sl0 : Array (Option Value)} {oc0 kV0 dc0 pm0 cd0 ct0 : Value} (a0 : PySem.W.nsIn K mainGlobals "is_digits" = some (some (.ref f0))) (l0 : K.lookup f0 = some ⟨oc0, od0, .func (PySem.W.fnOf "is_digits" "is_digits" (C8.fnArgs s_is_digits) (C8.fnBody s_is_digits) (C8.fnScope s_is_digits) .none kV0 dc0 pm0 an0 cd0 ct0), sl0⟩) (b0 : PySem.W.codeIn K cd0 "is_digits" = true) (k0 : PySem.W.keepIn K (.ref f0) = true)
    {f1 : Addr} {od1 an1 : Option Addr} {sl1 : Array (Option Value)} {oc1 kV1 dc1 pm1 cd1 ct1 : Value} (a1 : PySem.W.nsIn K mainGlobals "_is_leap" = some (some (.ref f1))) (l1 : K.lookup f1 = some ⟨oc1, od1, .func (PySem.W.fnOf "_is_leap" "_is_leap" (C8.fnArgs s__is_leap) (C8.fnBody s__is_leap) (C8.fnScope s__is_leap) .none kV1 dc1 pm1 an1 cd1 ct1), sl1⟩) (b1 : PySem.W.codeIn K cd1 "_is_leap" = true) (k1 : PySem.W.keepIn K (.ref f1) = true)
    {f2 : Addr} {od2 an2 : Option Addr} {sl2 : Array (Option Value)} {oc2 kV2 dc2 pm2 cd2 ct2 : Value} (a2 : PySem.W.nsIn K mainGlobals "month_length" = some (some (.ref f2))) (l2 : K.lookup f2 = some ⟨oc2, od2, .func (PySem.W.fnOf "month_length" "month_length" (C8.fnArgs s_month_length) (C8.fnBody s_month_length) (C8.fnScope s_month_length) .none kV2 dc2 pm2 an2 cd2 ct2), sl2⟩) (b2 : PySem.W.codeIn K cd2 "month_length" = true) (k2 : PySem.W.keepIn K (.ref f2) = true)
    {f3 : Addr} {od3 an3 : Option Addr} {sl3 : Array (Option Value)} {oc3 kV3 dc3 pm3 cd3 ct3 : Value} (a3 : PySem.W.nsIn K mainGlobals "day_of" = some (some (.ref f3))) (l3 : K.lookup f3 = some ⟨oc3, od3, .func (PySem.W.fnOf "day_of" "day_of" (C8.fnArgs s_day_of) (C8.fnBody s_day_of) (C8.fnScope s_day_of) .none kV3 dc3 pm3 an3 cd3 ct3), sl3⟩) (b3 : PySem.W.codeIn K cd3 "day_of" = true) (k3 : PySem.W.keepIn K (.ref f3) = true)
    {f4 : Addr} {od4 an4 : Option Addr} {sl4 : Array (Option Value)} {oc4 kV4 dc4 pm4 cd4 ct4 : Value} (a4 : PySem.W.nsIn K mainGlobals "date_of" = some (some (.ref f4))) (l4 : K.lookup f4 = some ⟨oc4, od4, .func (PySem.W.fnOf "date_of" "date_of" (C8.fnArgs s_date_of) (C8.fnBody s_date_of) (C8.fnScope s_date_of) .none kV4 dc4 pm4 an4 cd4 ct4), sl4⟩) (b4 : PySem.W.codeIn K cd4 "date_of" = true) (k4 : PySem.W.keepIn K (.ref f4) = true)
    {f5 : Addr} {od5 an5 : Option Addr} {sl5 : Array (Option Value)} {oc5 kV5 dc5 pm5 cd5 ct5 : Value} (a5 : PySem.W.nsIn K mainGlobals "date_text" = some (some (.ref f5))) (l5 : K.lookup f5 = some ⟨oc5, od5, .func (PySem.W.fnOf "date_text" "date_text" (C8.fnArgs s_date_text) (C8.fnBody s_date_text) (C8.fnScope s_date_text) .none kV5 dc5 pm5 an5 cd5 ct5), sl5⟩) (b5 : PySem.W.codeIn K cd5 "date_text" = true) (k5 : PySem.W.keepIn K (.ref f5) = true)
    {f6 : Addr} {od6 an6 : Option Addr} {sl6 : Array (Option Value)} {oc6 kV6 dc6 pm6 cd6 ct6 : Value} (a6 : PySem.W.nsIn K mainGlobals "read_date" = some (some (.ref f6))) (l6 : K.lookup f6 = some ⟨oc6, od6, .func (PySem.W.fnOf "read_date" "read_date" (C8.fnArgs s_read_date) (C8.fnBody s_read_date) (C8.fnScope s_read_date) .none kV6 dc6 pm6 an6 cd6 ct6), sl6⟩) (b6 : PySem.W.codeIn K cd6 "read_date" = true) (k6 : PySem.W.keepIn K (.ref f6) = true)
    {f7 : Addr} {od7 an7 : Option Addr} {sl7 : Array (Option Value)} {oc7 kV7 dc7 pm7 cd7 ct7 : Value} (a7 : PySem.W.nsIn K mainGlobals "_law_numbers" = some (some (.ref f7))) (l7 : K.lookup f7 = some ⟨oc7, od7, .func (PySem.W.fnOf "_law_numbers" "_law_numbers" (C8.fnArgs s__law_numbers) (C8.fnBody s__law_numbers) (C8.fnScope s__law_numbers) .none kV7 dc7 pm7 an7 cd7 ct7), sl7⟩) (b7 : PySem.W.codeIn K cd7 "_law_numbers" = true) (k7 : PySem.W.keepIn K (.ref f7) = true)
    {f8 : Addr} {od8 an8 : Option Addr} {sl8 : Array (Option Value)} {oc8 kV8 dc8 pm8 cd8 ct8 : Value} (a8 : PySem.W.nsIn K mainGlobals "_law_is_integer" = some (some (.ref f8))) (l8 : K.lookup f8 = some ⟨oc8, od8, .func (PySem.W.fnOf "_law_is_integer" "_law_is_integer" (C8.fnArgs s__law_is_integer) (C8.fnBody s__law_is_integer) (C8.fnScope s__law_is_integer) .none kV8 dc8 pm8 an8 cd8 ct8), sl8⟩) (b8 : PySem.W.codeIn K cd8 "_law_is_integer" = true) (k8 : PySem.W.keepIn K (.ref f8) = true)
    {f9 : Addr} {od9 an9 : Option Addr} {sl9 : Array (Option Value)} {oc9 kV9 dc9 pm9 cd9 ct9 : Value} (a9 : PySem.W.nsIn K mainGlobals "_law_text" = some (some (.ref f9))) (l9 : K.lookup f9 = some ⟨oc9, od9, .func (PySem.W.fnOf "_law_text" "_law_text" (C8.fnArgs s__law_text) (C8.fnBody s__law_text) (C8.fnScope s__law_text) .none kV9 dc9 pm9 an9 cd9 ct9), sl9⟩) (b9 : PySem.W.codeIn K cd9 "_law_text" = true) (k9 : PySem.W.keepIn K (.ref f9) = true)
    {f10 : Addr} {od10 an10 : Option Addr} {sl10 : Array (Option Value)} {oc10 kV10 dc10 pm10 cd10 ct10 : Value} (a10 : PySem.W.nsIn K mainGlobals "_law_digits" = some (some (.ref f10))) (l10 : K.lookup f10 = some ⟨oc10, od10, .func (PySem.W.fnOf "_law_digits" "_law_digits" (C8.fnArgs s__law_digits) (C8.fnBody s__law_digits) (C8.fnScope s__law_digits) .none kV10 dc10 pm10 an10 cd10 ct10), sl10⟩) (b10 : PySem.W.codeIn K cd10 "_law_digits" = true) (k10 : PySem.W.keepIn K (.ref f10) = true)
    {f11 : Addr} {od11 an11 : Option Addr} {sl11 : Array (Option Value)} {oc11 kV11 dc11 pm11 cd11 ct11 : Value} (a11 : PySem.W.nsIn K mainGlobals "_law_expected" = some (some (.ref f11))) (l11 : K.lookup f11 = some ⟨oc11, od11, .func (PySem.W.fnOf "_law_expected" "_law_expected" (C8.fnArgs s__law_expected) (C8.fnBody s__law_expected) (C8.fnScope s__law_expected) .none kV11 dc11 pm11 an11 cd11 ct11), sl11⟩) (b11 : PySem.W.codeIn K cd11 "_law_expected" = true) (k11 : PySem.W.keepIn K (.ref f11) = true)
    {f12 : Addr} {od12 an12 : Option Addr} {sl12 : Array (Option Value)} {oc12 kV12 dc12 pm12 cd12 ct12 : Value} (a12 : PySem.W.nsIn K mainGlobals "_law_changed" = some (some (.ref f12))) (l12 : K.lookup f12 = some ⟨oc12, od12, .func (PySem.W.fnOf "_law_changed" "_law_changed" (C8.fnArgs s__law_changed) (C8.fnBody s__law_changed) (C8.fnScope s__law_changed) .none kV12 dc12 pm12 an12 cd12 ct12), sl12⟩) (b12 : PySem.W.codeIn K cd12 "_law_changed" = true) (k12 : PySem.W.keepIn K (.ref f12) = true)
    {f13 : Addr} {od13 an13 : Option Addr} {sl13 : Array (Option Value)} {oc13 kV13 dc13 pm13 cd13 ct13 : Value} (a13 : PySem.W.nsIn K mainGlobals "law" = some (some (.ref f13))) (l13 : K.lookup f13 = some ⟨oc13, od13, .func (PySem.W.fnOf "law" "law" (C8.fnArgs s_law) (C8.fnBody s_law) (C8.fnScope s_law) .none kV13 dc13 pm13 an13 cd13 ct13), sl13⟩) (b13 : PySem.W.codeIn K cd13 "law" = true) (k13 : PySem.W.keepIn K (.ref f13) = true)
    (z_bool : PySem.W.nsIn K mainGlobals "bool" = some none)
    (z_divmod : PySem.W.nsIn K mainGlobals "divmod" = some none)
    (z_int : PySem.W.nsIn K mainGlobals "int" = some none)
    (z_isinstance : PySem.W.nsIn K mainGlobals "isinstance" = some none)
    (z_len : PySem.W.nsIn K mainGlobals "len" = some none)
    (z_min : PySem.W.nsIn K mainGlobals "min" = some none)
    (z_range : PySem.W.nsIn K mainGlobals "range" = some none)
    (z_str : PySem.W.nsIn K mainGlobals "str" = some none)
    {t_FIRST_DAY : Tok} (q_FIRST_DAY : PySem.W.nsIn K mainGlobals "FIRST_DAY" = some (some (.int (-719162) t_FIRST_DAY)))
    {t__DAYS_OF_100_YEARS : Tok} (q__DAYS_OF_100_YEARS : PySem.W.nsIn K mainGlobals "_DAYS_OF_100_YEARS" = some (some (.int (36524) t__DAYS_OF_100_YEARS)))
    {t__DAYS_OF_400_YEARS : Tok} (q__DAYS_OF_400_YEARS : PySem.W.nsIn K mainGlobals "_DAYS_OF_400_YEARS" = some (some (.int (146097) t__DAYS_OF_400_YEARS)))
    {t__DAYS_OF_4_YEARS : Tok} (q__DAYS_OF_4_YEARS : PySem.W.nsIn K mainGlobals "_DAYS_OF_4_YEARS" = some (some (.int (1461) t__DAYS_OF_4_YEARS)))
    {t__DAYS_OF_YEAR : Tok} (q__DAYS_OF_YEAR : PySem.W.nsIn K mainGlobals "_DAYS_OF_YEAR" = some (some (.int (365) t__DAYS_OF_YEAR)))
    {t__LAST_YEAR : Tok} (q__LAST_YEAR : PySem.W.nsIn K mainGlobals "_LAST_YEAR" = some (some (.int (9999) t__LAST_YEAR)))
    {p__MONTHS : Addr} (q__MONTHS : PySem.W.nsIn K mainGlobals "_MONTHS" = some (some (.ref p__MONTHS))) (r__MONTHS : ∀ H : Hp, SqT K H p__MONTHS (monthsL.map V.int))
    : ∃ fd : FuncData, (∀ (s : Shared) (v : Value), BindsTo s fd ⟨[v], []⟩ [("script", v)]) ∧ ∀ base : Heap, K.In base → base.Ns mainGlobals mg → FnOk P w K mg base C8.CX0 5 fa fd ["script"] (sp_law K) := by
  have D_is_digits : Dn K mg "is_digits" s_is_digits ["text"] := dn_mk l0 b0 k0 (PySem.W.mg_of X G a0) (fun _ _ _ _ _ _ us hl => match us, hl with | [_], _ => rfl)
  have D__is_leap : Dn K mg "_is_leap" s__is_leap ["year"] := dn_mk l1 b1 k1 (PySem.W.mg_of X G a1) (fun _ _ _ _ _ _ us hl => match us, hl with | [_], _ => rfl)
  have D_month_length : Dn K mg "month_length" s_month_length ["year", "month"] := dn_mk l2 b2 k2 (PySem.W.mg_of X G a2) (fun _ _ _ _ _ _ us hl => match us, hl with | [_, _], _ => rfl)
  have D_day_of : Dn K mg "day_of" s_day_of ["year", "month", "date"] := dn_mk l3 b3 k3 (PySem.W.mg_of X G a3) (fun _ _ _ _ _ _ us hl => match us, hl with | [_, _, _], _ => rfl)
  have D_date_of : Dn K mg "date_of" s_date_of ["day"] := dn_mk l4 b4 k4 (PySem.W.mg_of X G a4) (fun _ _ _ _ _ _ us hl => match us, hl with | [_], _ => rfl)
  have D_date_text : Dn K mg "date_text" s_date_text ["day"] := dn_mk l5 b5 k5 (PySem.W.mg_of X G a5) (fun _ _ _ _ _ _ us hl => match us, hl with | [_], _ => rfl)
  have D_read_date : Dn K mg "read_date" s_read_date ["text"] := dn_mk l6 b6 k6 (PySem.W.mg_of X G a6) (fun _ _ _ _ _ _ us hl => match us, hl with | [_], _ => rfl)
  have D__law_numbers : Dn K mg "_law_numbers" s__law_numbers ["script", "count"] := dn_mk l7 b7 k7 (PySem.W.mg_of X G a7) (fun _ _ _ _ _ _ us hl => match us, hl with | [_, _], _ => rfl)
  have D__law_is_integer : Dn K mg "_law_is_integer" s__law_is_integer ["value"] := dn_mk l8 b8 k8 (PySem.W.mg_of X G a8) (fun _ _ _ _ _ _ us hl => match us, hl with | [_], _ => rfl)
  have D__law_text : Dn K mg "_law_text" s__law_text ["number", "size"] := dn_mk l9 b9 k9 (PySem.W.mg_of X G a9) (fun _ _ _ _ _ _ us hl => match us, hl with | [_, _], _ => rfl)
  have D__law_digits : Dn K mg "_law_digits" s__law_digits ["number", "size"] := dn_mk l10 b10 k10 (PySem.W.mg_of X G a10) (fun _ _ _ _ _ _ us hl => match us, hl with | [_, _], _ => rfl)
  have D__law_expected : Dn K mg "_law_expected" s__law_expected ["text"] := dn_mk l11 b11 k11 (PySem.W.mg_of X G a11) (fun _ _ _ _ _ _ us hl => match us, hl with | [_], _ => rfl)
  have D__law_changed : Dn K mg "_law_changed" s__law_changed ["text", "choice", "at", "sign"] := dn_mk l12 b12 k12 (PySem.W.mg_of X G a12) (fun _ _ _ _ _ _ us hl => match us, hl with | [_, _, _, _], _ => rfl)
  have y_bool : mg "bool" = none := PySem.W.mg_none_of X G z_bool
  have y_divmod : mg "divmod" = none := PySem.W.mg_none_of X G z_divmod
  have y_int : mg "int" = none := PySem.W.mg_none_of X G z_int
  have y_isinstance : mg "isinstance" = none := PySem.W.mg_none_of X G z_isinstance
  have y_len : mg "len" = none := PySem.W.mg_none_of X G z_len
  have y_min : mg "min" = none := PySem.W.mg_none_of X G z_min
  have y_range : mg "range" = none := PySem.W.mg_none_of X G z_range
  have y_str : mg "str" = none := PySem.W.mg_none_of X G z_str
  have v_FIRST_DAY : ∃ u, mg "FIRST_DAY" = some u ∧ RelV (.int (-719162)) u := ⟨_, PySem.W.mg_of X G q_FIRST_DAY, ⟨_, rfl⟩⟩
  have v__DAYS_OF_100_YEARS : ∃ u, mg "_DAYS_OF_100_YEARS" = some u ∧ RelV (.int (36524)) u := ⟨_, PySem.W.mg_of X G q__DAYS_OF_100_YEARS, ⟨_, rfl⟩⟩
  have v__DAYS_OF_400_YEARS : ∃ u, mg "_DAYS_OF_400_YEARS" = some u ∧ RelV (.int (146097)) u := ⟨_, PySem.W.mg_of X G q__DAYS_OF_400_YEARS, ⟨_, rfl⟩⟩
  have v__DAYS_OF_4_YEARS : ∃ u, mg "_DAYS_OF_4_YEARS" = some u ∧ RelV (.int (1461)) u := ⟨_, PySem.W.mg_of X G q__DAYS_OF_4_YEARS, ⟨_, rfl⟩⟩
  have v__DAYS_OF_YEAR : ∃ u, mg "_DAYS_OF_YEAR" = some u ∧ RelV (.int (365)) u := ⟨_, PySem.W.mg_of X G q__DAYS_OF_YEAR, ⟨_, rfl⟩⟩
  have v__LAST_YEAR : ∃ u, mg "_LAST_YEAR" = some u ∧ RelV (.int (9999)) u := ⟨_, PySem.W.mg_of X G q__LAST_YEAR, ⟨_, rfl⟩⟩
  have v__MONTHS : ∃ u, mg "_MONTHS" = some u ∧ RelV (.ref p__MONTHS) u := ⟨_, PySem.W.mg_of X G q__MONTHS, rfl⟩
  have w__MONTHS := r__MONTHS
  have e := hfa.symm.trans (PySem.W.mg_of X G a13)
  cases e
  have D_law := def_mk (x := "law") (st := s_law) l13 b13 k13 hfa
  refine ⟨PySem.W.fnOf "law" "law" (C8.fnArgs s_law) (C8.fnBody s_law) (C8.fnScope s_law) .none kV13 dc13 pm13 an13 cd13 ct13, fun s v => .of_eq rfl, fun base _ _ => ?_⟩
  have c_is_digits := ok_is_digits (P := P) (w := w) (base := base) D_is_digits 
  have c__is_leap := ok__is_leap (P := P) (w := w) (base := base) D__is_leap 
  have c_month_length := ok_month_length (P := P) (w := w) (base := base) D_month_length c__is_leap v__MONTHS w__MONTHS 
  have c_day_of := ok_day_of (P := P) (w := w) (base := base) D_day_of c_month_length y_range v_FIRST_DAY v__DAYS_OF_YEAR v__LAST_YEAR 
  have c_date_of := ok_date_of (P := P) (w := w) (base := base) D_date_of c_month_length y_divmod y_min v_FIRST_DAY v__DAYS_OF_100_YEARS v__DAYS_OF_400_YEARS v__DAYS_OF_4_YEARS v__DAYS_OF_YEAR 
  have c_date_text := ok_date_text (P := P) (w := w) (base := base) D_date_text c_date_of 
  have c_read_date := ok_read_date (P := P) (w := w) (base := base) D_read_date c_day_of c_is_digits y_int y_len 
  have c__law_numbers := ok__law_numbers (P := P) (w := w) (base := base) D__law_numbers y_int y_len y_range 
  have c__law_is_integer := ok__law_is_integer (P := P) (w := w) (base := base) D__law_is_integer y_bool y_int y_isinstance 
  have c__law_text := ok__law_text (P := P) (w := w) (base := base) D__law_text y_int y_range 
  have c__law_digits := ok__law_digits (P := P) (w := w) (base := base) D__law_digits y_int y_range 
  have c__law_expected := ok__law_expected (P := P) (w := w) (base := base) D__law_expected c_day_of y_len 
  have c__law_changed := ok__law_changed (P := P) (w := w) (base := base) D__law_changed 
  exact ok_law (P := P) (w := w) (base := base) D_law c__law_changed c__law_digits c__law_expected c__law_is_integer c__law_numbers c__law_text c_date_of c_date_text c_read_date y_int y_isinstance y_str 
end My
open PySem PySem.W PyProof.Rows
set_option maxHeartbeats 0 in
theorem PySem.Challenge.cw_stylobate_k04_texts_of_dates_holds : PySem.Challenge.rw_stylobate_k04_texts_of_dates.Holds := by
  w_on; o_law; k_head; (case hw => w_witness2)
  k_fill
  refine L2.walk_of (l := PySem.Challenge.rw_stylobate_k04_texts_of_dates) (n := 63) (k := 5) (x := "script") (CX := fun _ => C8.CX0) (sp := fun w => My.sp_law _) rfl (by decide) rfl ⟨rfl, by decide, by decide⟩ (fun w h Y => PySem.W.kIn_of Y) ?F (fun _ _ a ns hl _ hS => My.sp_law_of hl hS) (fun _ _ _ _ _ h => h)
  case F =>
    intro w mg fa h KX G hmg
    refine' My.all_mk KX G hmg ?a0 ?l0 ?b0 ?k0 ?a1 ?l1 ?b1 ?k1 ?a2 ?l2 ?b2 ?k2 ?a3 ?l3 ?b3 ?k3 ?a4 ?l4 ?b4 ?k4 ?a5 ?l5 ?b5 ?k5 ?a6 ?l6 ?b6 ?k6 ?a7 ?l7 ?b7 ?k7 ?a8 ?l8 ?b8 ?k8 ?a9 ?l9 ?b9 ?k9 ?a10 ?l10 ?b10 ?k10 ?a11 ?l11 ?b11 ?k11 ?a12 ?l12 ?b12 ?k12 ?a13 ?l13 ?b13 ?k13 ?z_bool ?z_divmod ?z_int ?z_isinstance ?z_len ?z_min ?z_range ?z_str ?q_FIRST_DAY ?q__DAYS_OF_100_YEARS ?q__DAYS_OF_400_YEARS ?q__DAYS_OF_4_YEARS ?q__DAYS_OF_YEAR ?q__LAST_YEAR ?q__MONTHS ?r__MONTHS
    (case a0 => k_is); (case l0 => k_is); (case b0 => k_is); (case k0 => k_is); (case a1 => k_is); (case l1 => k_is); (case b1 => k_is); (case k1 => k_is); (case a2 => k_is); (case l2 => k_is); (case b2 => k_is); (case k2 => k_is); (case a3 => k_is); (case l3 => k_is); (case b3 => k_is); (case k3 => k_is); (case a4 => k_is); (case l4 => k_is); (case b4 => k_is); (case k4 => k_is); (case a5 => k_is); (case l5 => k_is); (case b5 => k_is); (case k5 => k_is); (case a6 => k_is); (case l6 => k_is); (case b6 => k_is); (case k6 => k_is); (case a7 => k_is); (case l7 => k_is); (case b7 => k_is); (case k7 => k_is); (case a8 => k_is); (case l8 => k_is); (case b8 => k_is); (case k8 => k_is); (case a9 => k_is); (case l9 => k_is); (case b9 => k_is); (case k9 => k_is); (case a10 => k_is); (case l10 => k_is); (case b10 => k_is); (case k10 => k_is); (case a11 => k_is); (case l11 => k_is); (case b11 => k_is); (case k11 => k_is); (case a12 => k_is); (case l12 => k_is); (case b12 => k_is); (case k12 => k_is); (case a13 => k_is); (case l13 => k_is); (case b13 => k_is); (case k13 => k_is); (case z_bool => k_is); (case z_divmod => k_is); (case z_int => k_is); (case z_isinstance => k_is); (case z_len => k_is); (case z_min => k_is); (case z_range => k_is); (case z_str => k_is); (case q_FIRST_DAY => k_is); (case q__DAYS_OF_100_YEARS => k_is); (case q__DAYS_OF_400_YEARS => k_is); (case q__DAYS_OF_4_YEARS => k_is); (case q__DAYS_OF_YEAR => k_is); (case q__LAST_YEAR => k_is); (case q__MONTHS => k_is)
    (case r__MONTHS => exact fun _ => .inr ⟨_, _, _, (by k_is), rfl, rfl, by decide, by repeat (first | exact .nil | refine .cons ⟨_, rfl⟩ ?_)⟩)


