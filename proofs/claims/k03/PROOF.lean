import PyProof.Rows.All
import Wide.All
import OpenK.AllK
import Wide.FinOn
import HandS.ForMost
import HandS.Codes
import HandS.Evl
import HandS.IsInst
import HandS.Wide
import PySem.Challenge.RW_stylobate_k03_days_and_dates
set_option Elab.async false
set_option linter.all false
set_option maxRecDepth 100000
set_option maxHeartbeats 4000000
namespace My
open PySem PySem.Spec PyProof.Rows L2 Evl
/-! ### defs of the text, promises, the end -/
def Dn (K : PySem.W.Frag) (mg : Str → Option Value) (x : Str) (st : Stmt) (ps : List Str) : Prop := ∃ f fd, C8.Def K mg x st f fd ∧ Binds K fd ps []
section
variable {P : Program} {w : World} {K : PySem.W.Frag} {mg : Str → Option Value} {base : Heap}
theorem cal_of {x : Str} {st : Stmt} {N ps : List Str} {k : Nat} {sp : Sp} (D : Dn K mg x st ps) (S : FnScope N ps (C8.fnScope st)) (len : ∀ vs H Q E, sp vs H Q E → vs.length = ps.length)
    (hbody : ∀ (f : Addr) (cdv : Value) (A : Around) (outer : List Env) (s : Shared) (H : Hp) (vs : List V) (Q : VK) (E : XK), Room k (A.deeper (envOfC x (C8.fnScope st) s.heap.objs.size f cdv)) → sp vs H Q E →
      ∃ t, PSs (cxOf C8.CX0 P w K mg base N x (C8.fnScope st) f cdv A outer s H E).nox (C8.fnBody st) t ∧ t { nx := fun _ H' => Q .non H', rt := Q } (start N vs) H) : C8.Cal P w K mg base (k + 1) x sp [] := by
  obtain ⟨f, fd, F, b⟩ := D
  exact C8.cal0 F b .nil S len (hbody f)
theorem def_mk {x : Str} {st : Stmt} {f : Addr} {oc : Value} {od an : Option Addr} {osl : Array (Option Value)} {kV doc pm cdv ct : Value}
    (l : K.lookup f = some ⟨oc, od, .func (PySem.W.fnOf x x (C8.fnArgs st) (C8.fnBody st) (C8.fnScope st) .none kV doc pm an cdv ct), osl⟩)
    (c : PySem.W.codeIn K cdv x = true) (k : PySem.W.keepIn K (.ref f) = true) (m : mg x = some (.ref f)) : C8.Def K mg x st f (PySem.W.fnOf x x (C8.fnArgs st) (C8.fnBody st) (C8.fnScope st) .none kV doc pm an cdv ct) :=
  ⟨⟨oc, od, .none, kV, doc, pm, an, cdv, ct, osl, rfl, l, c⟩, m, k⟩
theorem dn_mk {x : Str} {st : Stmt} {f : Addr} {oc : Value} {od an : Option Addr} {osl : Array (Option Value)} {kV doc pm cdv ct : Value} {ps : List Str}
    (l : K.lookup f = some ⟨oc, od, .func (PySem.W.fnOf x x (C8.fnArgs st) (C8.fnBody st) (C8.fnScope st) .none kV doc pm an cdv ct), osl⟩)
    (c : PySem.W.codeIn K cdv x = true) (k : PySem.W.keepIn K (.ref f) = true) (m : mg x = some (.ref f))
    (h : ∀ (kV doc pm : Value) (an : Option Addr) (cdv ct : Value) (us : List Value), us.length = ps.length → bindArgs (PySem.W.fnOf x x (C8.fnArgs st) (C8.fnBody st) (C8.fnScope st) .none kV doc pm an cdv ct) ⟨us, []⟩ = pure (ps.zip us)) : Dn K mg x st ps :=
  ⟨f, _, def_mk l c k m, C8.Fun.binds (def_mk l c k m).fn rfl h⟩
end
/-! ### x is True, x is False, of any value -/
def rIsT : R2 := fun x y H Q => ∃ b : Bool, y = .bl b ∧ Q (.bl (decide (x = .bl b))) H
def rNotT : R2 := fun x y H Q => ∃ b : Bool, y = .bl b ∧ Q (.bl (!decide (x = .bl b))) H
section
variable {X : Cx}
theorem rel_bl {x : V} {v : Value} {b : Bool} (rx : RelV x v) : PySem.plainIs v (.bool b) = true ∧ (v == .bool b) = decide (x = .bl b) ∨ ∃ n, v = .builtin n := by
  cases x with
  | non => cases (show v = Value.none from rx); exact .inl ⟨rfl, rfl⟩
  | bl c => cases (show v = Value.bool c from rx); exact .inl ⟨rfl, by cases b <;> cases c <;> rfl⟩
  | int i => obtain ⟨t, e⟩ := (show ∃ t, v = Value.int i t from rx); cases e; exact .inl ⟨rfl, rfl⟩
  | str i => obtain ⟨t, e⟩ := (show ∃ t, v = Value.str i t from rx); cases e; exact .inl ⟨rfl, rfl⟩
  | byt i => obtain ⟨t, e⟩ := (show ∃ t, v = Value.bytes i t from rx); cases e; exact .inl ⟨rfl, rfl⟩
  | flt i => obtain ⟨t, e⟩ := (show ∃ t, v = Value.float i t from rx); cases e; exact .inl ⟨rfl, rfl⟩
  | ref a => cases (show v = Value.ref a from rx); exact .inl ⟨rfl, rfl⟩
  | ty n => cases (show v = Value.type n from rx); exact .inl ⟨rfl, rfl⟩
theorem rel_bl' {x : V} {v : Value} {b : Bool} (rx : RelV x v) : PySem.plainIs v (.bool b) = true ∧ (v == .bool b) = decide (x = .bl b) := by
  rcases rel_bl (b := b) rx with h | ⟨n, rfl⟩
  · exact h
  · cases x <;> first | exact nomatch (rx : Value.builtin n = _) | (obtain ⟨t, e⟩ := rx; exact nomatch e)
theorem op_isTF : OpR X (compareOp .Is) rIsT := by
  intro pins s σ H x y v u Q I rx ry h
  obtain ⟨b, rfl, q⟩ := h
  cases (show u = Value.bool b from ry)
  obtain ⟨h1, h2⟩ := rel_bl' (b := b) rx
  exact wpAny_is_plain h1 ⟨.bl _, H, I, rfl, by rw [h2]; exact q⟩
theorem op_notTF : OpR X (compareOp .IsNot) rNotT := by
  intro pins s σ H x y v u Q I rx ry h
  obtain ⟨b, rfl, q⟩ := h
  cases (show u = Value.bool b from ry)
  obtain ⟨h1, h2⟩ := rel_bl' (b := b) rx
  exact wpAny_isNot_plain h1 ⟨.bl _, H, I, rfl, by rw [h2]; exact q⟩
end
/-! ### what evaluates to what: further -/
section
variable {K : PySem.W.Frag} {σ : L2.St} {H H' : Hp} {ta tb te tx : TE} {t u : TT} {x y z v : V} {r : R2}
theorem rv_isT {b : Bool} : RV rIsT x (.bl b) H (.bl (decide (x = .bl b))) := fun H1 _ _ q => ⟨b, rfl, q H1 (Ex.refl H1)⟩
theorem rv_notT {b : Bool} : RV rNotT x (.bl b) H (.bl (!decide (x = .bl b))) := fun H1 _ _ q => ⟨b, rfl, q H1 (Ex.refl H1)⟩
theorem rv_isN : RV (fun x y H Q => y = .non ∧ Q (.bl (decide (x = .non))) H) x .non H (.bl (decide (x = .non))) := fun H1 _ _ q => ⟨rfl, q H1 (Ex.refl H1)⟩
theorem rv_notN : RV (fun x y H Q => y = .non ∧ Q (.bl (!decide (x = .non))) H) x .non H (.bl (!decide (x = .non))) := fun H1 _ _ q => ⟨rfl, q H1 (Ex.refl H1)⟩
theorem ev_int {i : Int} (h : Ev ta σ H (.int i)) : Ev (tCB (fun xs H Q => (∃ i, xs = [.int i] ∧ Q (.int i) H) ∨ ∃ k, xs = [.bl k] ∧ Q (.int (if k then 1 else 0)) H) (tCons ta tNil)) σ H (.int i) :=
  fun H1 e Q q => h H1 e _ fun H2 e2 => .inl ⟨i, rfl, q H2 e2⟩
theorem ev_intB {b : Bool} (h : Ev ta σ H (.bl b)) : Ev (tCB (fun xs H Q => (∃ i, xs = [.int i] ∧ Q (.int i) H) ∨ ∃ k, xs = [.bl k] ∧ Q (.int (if k then 1 else 0)) H) (tCons ta tNil)) σ H (.int (if b then 1 else 0)) :=
  fun H1 e Q q => h H1 e _ fun H2 e2 => .inr ⟨b, rfl, q H2 e2⟩
theorem ev_abs {i : Int} (h : Ev ta σ H (.int i)) : Ev (tCB (fun xs H Q => ∃ i, xs = [.int i] ∧ Q (.int (if i < 0 then -i else i)) H) (tCons ta tNil)) σ H (.int (if i < 0 then -i else i)) :=
  fun H1 e Q q => h H1 e _ fun H2 e2 => ⟨i, rfl, q H2 e2⟩
theorem ev_min2 {i j : Int} (ha : Ev ta σ H (.int i)) (hb : Ev tb σ H (.int j)) : Ev (tCB (fun xs H Q => ∃ i j, xs = [.int i, .int j] ∧ Q (.int (if j < i then j else i)) H) (tCons ta (tCons tb tNil))) σ H (.int (if j < i then j else i)) := fun H1 e Q q =>
  ha H1 e _ fun H2 e2 => hb H2 (e.trans e2) _ fun H3 e3 => ⟨i, j, rfl, q H3 (e2.trans e3)⟩
theorem ev_lenS {s : Str} (h : Ev ta σ H (.str s)) (hz : s.length ≤ 100000) : Ev (tCB (fun xs H Q => ∃ z, xs = [.str z] ∧ z.length ≤ sizeLine ∧ Q (.int z.length) H) (tCons ta tNil)) σ H (.int s.length) :=
  fun H1 e Q q => h H1 e _ fun H2 e2 => ⟨s, rfl, sz_of hz, q H2 e2⟩
/-- isinstance(x, T) of a plain value -/
def tyOf : V → String
  | .non => "NoneType"
  | .bl _ => "bool"
  | .int _ => "int"
  | .str _ => "str"
  | .byt _ => "bytes"
  | .flt _ => "float"
  | _ => "?"
def isTy (x : V) (T : String) : Bool := ((kitB (tyOf x) T).getD false)
theorem ev_isi {T : String} {tn : String} {b : Bool} (ha : Ev ta σ H x) (ht : ∀ H1, TyX K H1 x (.type tn)) (hk : kitB tn T = some b) : Ev (tCB (rIsi K) (tCons ta (tCons (tC (.ty T)) tNil))) σ H (.bl b) :=
  fun H1 e Q q => ha H1 e _ fun H2 e2 => ⟨x, .ty T, .type tn, .type T, b, rfl, .ty T, ht H2, kit_ty hk, q H2 e2⟩
theorem tx_int (i : Int) (H1 : Hp) : TyX K H1 (.int i) (.type "int") := .base (.int i)
theorem tx_bl (i : Bool) (H1 : Hp) : TyX K H1 (.bl i) (.type "bool") := .base (.bl i)
theorem tx_str (i : Str) (H1 : Hp) : TyX K H1 (.str i) (.type "str") := .base (.str i)
theorem tx_non (H1 : Hp) : TyX K H1 .non (.type "NoneType") := .base .non
section
variable {D : Ends} {tz : TS}
/-- if c: x = e, an int: told by the value x has behind it -/
theorem q_ifI {b : Bool} {i : Nat} {p q : Int} (h : EvT t σ H b) (h1 : b = true → Ev te σ H (.int p)) (h0 : σ[i]? = some (some (.int q))) (k : ∀ H1, Ex H H1 → tz D (σ.set i (some (.int (if b = true then p else q)))) H1) : tSeq (tIfS t (tAsg te (gName i)) tNext) tz D σ H := by
  refine q_ifAsg h (fun hb => ?_) (fun hb => ?_) k
  · rw [if_pos hb]
    exact h1 hb
  · rw [hb]
    show σ.set i (some (V.int q)) = σ
    apply List.ext_getElem?
    intro j
    rw [List.getElem?_set]
    split
    · rename_i e
      subst e
      rw [h0]
      have := (List.getElem?_eq_some_iff.mp h0).1
      rw [if_pos this]
    · rfl
end
/-- a promise of one value, all else as it was -/
theorem spv {sp : Sp} {vs : List V} (h : ∀ H1, Ex H H1 → ∀ Q : VK, (∀ H2, Ex H1 H2 → Q z H2) → ∀ E : XK, sp vs H1 Q E) : SpV sp vs H z := h
end
local macro_rules | `(tactic| walk_at "side") => `(tactic| first
  | exact .inr ⟨by decide, by decide⟩
  | exact .inl ⟨by decide, by decide⟩
  | exact .inl ⟨by omega, by omega⟩
  | exact .inr ⟨by omega, by omega⟩
  | exact ⟨by decide, by decide⟩
  | exact ⟨by omega, by omega⟩
  | decide
  | (show (_ : Int) < _; omega)
  | omega)
local macro_rules | `(tactic| walk_at "rv") => `(tactic| first
  | exact rv_I0
  | ((refine' rv_I ?k1); (case k1 => walk_at "side"))
  | exact rv_isT
  | exact rv_notT
  | exact rv_isN
  | exact rv_notN
  | exact rv_eq rfl
  | exact rv_ne rfl)
local macro_rules | `(tactic| walk_at "sq") => `(tactic| first | assumption | exact ex_l (by assumption) (by assumption) | exact sq_of (by assumption))
/-- what a part gives, read off its form -/
local macro_rules | `(tactic| walk_at "ev") => `(tactic| first
  | exact ev_var rfl
  | exact ev_c
  | ((with_reducible refine' ev_op ?k1 ?k2 ?k3); (case k1 => walk_at "ev"); (case k2 => walk_at "ev"); (case k3 => walk_at "rv"))
  | ((with_reducible refine' ev_un ?k1 ?k2); (case k1 => walk_at "ev"); (case k2 => exact ru_neg))
  | ((with_reducible refine' ev_int ?k1); (case k1 => walk_at "ev"))
  | ((with_reducible refine' ev_abs ?k1); (case k1 => walk_at "ev"))
  | ((with_reducible refine' ev_andV ?k1 ?k2); (case k1 => walk_at "ev"); (case k2 => intro _; walk_at "ev"))
  | ((with_reducible refine' ev_orV ?k1 ?k2); (case k1 => walk_at "ev"); (case k2 => intro _; walk_at "ev"))
  | ((with_reducible refine' ev_notV ?k1); (case k1 => walk_at "ev"))
  | ((refine' ev_len ?k1 ?k2); (case k1 => walk_at "ev"); (case k2 => walk_at "sq")))
local macro_rules | `(tactic| walk_at "et") => `(tactic| first
  | ((with_reducible refine' et_or ?k1 ?k2); (case k1 => walk_at "et"); (case k2 => intro _; walk_at "et"))
  | ((with_reducible refine' et_and ?k1 ?k2); (case k1 => walk_at "et"); (case k2 => intro _; walk_at "et"))
  | ((with_reducible refine' et_not ?k1); (case k1 => walk_at "et"))
  | (refine' et_test ?k1; (case k1 => walk_at "ev"))
  | (refine' et_B ?k1; (case k1 => walk_at "ev")))

/-! ### tuples made, tuples read, data compared -/
def SpU (sp : Sp) (vs : List V) (H : Hp) (xs : List V) : Prop := ∀ H1, Ex H H1 → ∀ Q : VK, (∀ p H2, H1 p = none → Ex H1 H2 → H2 p = some (.tup xs) → Q (.ref p) H2) → ∀ E : XK, sp vs H1 Q E
section
variable {K : PySem.W.Frag} {σ : L2.St} {H H' : Hp} {ta tb te : TE} {x y z v : V}
theorem eu_call {sp : Sp} {dvs vs xs : List V} {E : XK} {ta : TA} (h : EvA ta σ H vs) (hs : SpU sp (vs ++ dvs) H xs) : EvU (tCall sp dvs E ta) σ H xs := fun H1 e Q q =>
  h H1 e _ fun H2 e2 => hs H2 (e.trans e2) Q (fun p H3 hp e3 h3 => q p H3 (fresh_back e2 hp) (e2.trans e3) h3) E
theorem ev_lenT {p : Addr} {xs : List V} (ha : Ev ta σ H (.ref p)) (h : SqT K H p xs) : Ev (tCB (fun xs H Q => ∃ p ys, xs = [.ref p] ∧ (SqL K H p ys ∨ SqT K H p ys) ∧ Q (.int ys.length) H) (tCons ta tNil)) σ H (.int (xs.length : Int)) := fun H1 e Q q =>
  ha H1 e _ fun H2 e2 => ⟨p, xs, rfl, Or.inr (ex_t (e.trans e2) h), q H2 e2⟩
theorem eu_divmod {i j : Int} (ha : Ev ta σ H (.int i)) (hb : Ev tb σ H (.int j)) (hc : CDiv i j) :
    EvU (tCB (fun xs H Q => ∃ i j, xs = [.int i, .int j] ∧ CDiv i j ∧ ∀ p, H p = none → Q (.ref p) (upd H p (.tup [.int (i / j), .int (i % j)]))) (tCons ta (tCons tb tNil))) σ H [.int (i / j), .int (i % j)] := fun H1 e Q q =>
  ha H1 e _ fun H2 e2 => hb H2 (e.trans e2) _ fun H3 e3 => ⟨i, j, rfl, hc, fun p hp => q p _ (fresh_back (e2.trans e3) hp) ((e2.trans e3).trans (Ex.new hp)) upd_same⟩
theorem dp_ints : ∀ ns : List Int, DpAll K H (ns.map V.int) (ns.map PyData.int)
  | [] => .nil
  | n :: r => .cons (.int n) (dp_ints r)
theorem eqv_ints : ∀ ns ms : List Int, PyData.eqv (.tuple (ns.map PyData.int)) (.tuple (ms.map PyData.int)) = decide (ns = ms)
  | [], [] => rfl
  | [], _ :: _ => rfl
  | _ :: _, [] => rfl
  | n :: r, m :: t => by
    have ih := eqv_ints r t
    show ((n == m) && PyData.eqv (.tuple (r.map PyData.int)) (.tuple (t.map PyData.int))) = _
    rw [ih, Bool.eq_iff_iff, Bool.and_eq_true, decide_eq_true_eq, decide_eq_true_eq, beq_iff_eq, List.cons.injEq]
theorem dp_tup {p : Addr} {ns : List Int} (h : SqT K H p (ns.map V.int)) : Dp K H (.ref p) (.tuple (ns.map PyData.int)) := .tup h (dp_ints ns)
def shI (n : Nat) : Bool := SeqAt.shaped (.tuple ((List.replicate n 0).map PyData.int))
theorem rv_neT {p q : Addr} {ns ms : List Int} (hp : SqT K H p (ns.map V.int)) (hq : SqT K H q (ms.map V.int)) (s1 : SeqAt.shaped (.tuple (ns.map PyData.int)) = true) (s2 : SeqAt.shaped (.tuple (ms.map PyData.int)) = true) : RV (rNeD K) (.ref p) (.ref q) H (.bl (!decide (ns = ms))) := fun H1 e Q k =>
  ⟨_, _, dp_tup (ex_t e hp), dp_tup (ex_t e hq), s1, s2, by rw [eqv_ints]; exact k H1 (Ex.refl H1)⟩
theorem tx_tup {a : Addr} {xs : List V} (h : H a = some (.tup xs)) : ∀ H1, Ex H H1 → TyX K H1 (.ref a) (.type "tuple") := fun H1 e => .base (.tup (e _ _ h))
theorem ev_isi' {T : String} {tn : String} {b : Bool} (ha : Ev ta σ H x) (ht : ∀ H1, Ex H H1 → TyX K H1 x (.type tn)) (hk : kitB tn T = some b) : Ev (tCB (rIsi K) (tCons ta (tCons (tC (.ty T)) tNil))) σ H (.bl b) :=
  fun H1 e Q q => ha H1 e _ fun H2 e2 => ⟨x, .ty T, .type tn, .type T, b, rfl, .ty T, ht H2 (e.trans e2), kit_ty hk, q H2 e2⟩
theorem ev_chain {r r' : R2} {tc : TE} {b c : Bool} (ha : Ev ta σ H x) (hb : Ev tb σ H y) (hr : RV r x y H (.bl b)) (hc : b = true → Ev tc σ H z) (hr' : b = true → RV r' y z H (.bl c)) : Ev (tChain r r' ta tb tc) σ H (.bl (b && c)) := fun H1 e Q q =>
  ha H1 e _ fun H2 e2 => hb H2 (e.trans e2) _ fun H3 e3 => hr H3 ((e.trans e2).trans e3) _ fun H4 e4 => ⟨b, rfl, by
    cases b with
    | true =>
      show tc σ H4 fun w' H5 => r' y w' H5 Q
      exact hc rfl H4 (((e.trans e2).trans e3).trans e4) _ fun H5 e5 => hr' rfl H5 ((((e.trans e2).trans e3).trans e4).trans e5) Q fun H6 e6 => q H6 ((((e2.trans e3).trans e4).trans e5).trans e6)
    | false =>
      show Q (.bl false) H4
      exact q H4 ((e2.trans e3).trans e4)⟩
/-- a, b = (..): a new tuple unpacked into names -/
theorem gt2 {p : Addr} {i j : Nat} (h : SqT K H p [x, y]) {Q : L2.St → Hp → Prop} (k : Q ((σ.set i (some x)).set j (some y)) H) : gTup K 2 (gCons (gName i) (gCons (gName j) gNil)) (.ref p) σ H Q :=
  ⟨p, [x, y], rfl, h, rfl, x, [y], rfl, y, [], rfl, rfl, k⟩
theorem gt3 {p : Addr} {i j l : Nat} (h : SqT K H p [x, y, z]) {Q : L2.St → Hp → Prop} (k : Q (((σ.set i (some x)).set j (some y)).set l (some z)) H) : gTup K 3 (gCons (gName i) (gCons (gName j) (gCons (gName l) gNil))) (.ref p) σ H Q :=
  ⟨p, [x, y, z], rfl, h, rfl, x, [y, z], rfl, y, [z], rfl, z, [], rfl, rfl, k⟩
end
theorem hu64 {A : Around} {k : Nat} (hr : Room k A) : A.units + 64 < cLine := by
  have := hr.un
  omega
section
variable {K : PySem.W.Frag} {σ : L2.St} {H : Hp} {te : TE} {D : Ends} {tz : TS} {g : TG} {xs : List V}
theorem q_asgG (h : EvU te σ H xs) (k : ∀ p H1, H p = none → Ex H H1 → H1 p = some (.tup xs) → g (.ref p) σ H1 (tz D)) : tSeq (tAsg te g) tz D σ H := h H (Ex.refl H) _ fun p H1 hp e h1 => k p H1 hp e h1
theorem q_asgV {v : V} (h : Ev te σ H v) (k : ∀ H1, Ex H H1 → g v σ H1 (tz D)) : tSeq (tAsg te g) tz D σ H := h H (Ex.refl H) _ fun H1 e => k H1 e
end
/-! ### plain values and their types -/
inductive Pl : V → Prop where
  | non : Pl .non
  | bl (b : Bool) : Pl (.bl b)
  | int (i : Int) : Pl (.int i)
  | str (s : Str) : Pl (.str s)
def tyN : V → String
  | .bl _ => "bool"
  | .int _ => "int"
  | .str _ => "str"
  | _ => "NoneType"
def isInt : V → Bool
  | .int _ => true
  | _ => false
theorem tx_pl {K : PySem.W.Frag} {x : V} (h : Pl x) (H1 : Hp) : TyX K H1 x (.type (tyN x)) := by
  cases h with
  | non => exact .base .non
  | bl b => exact .base (.bl b)
  | int i => exact .base (.int i)
  | str s => exact .base (.str s)
theorem ev_isiP {K : PySem.W.Frag} {σ : L2.St} {H : Hp} {ta : TE} {x : V} {T : String} {b : Bool} (ha : Ev ta σ H x) (hx : Pl x) (hk : kitB (tyN x) T = some b) : Ev (tCB (rIsi K) (tCons ta (tCons (tC (.ty T)) tNil))) σ H (.bl b) :=
  ev_isi ha (tx_pl hx) hk
/-- isinstance(x, int) and not isinstance(x, bool) -/
theorem ev_isInt {K : PySem.W.Frag} {σ : L2.St} {H : Hp} {ta tb : TE} {x : V} (ha : Ev ta σ H x) (hb : Ev tb σ H x) (hx : Pl x) :
    Ev (tAndV (tCB (rIsi K) (tCons ta (tCons (tC (.ty "int")) tNil))) (tNotV (tCB (rIsi K) (tCons tb (tCons (tC (.ty "bool")) tNil))))) σ H (.bl (isInt x)) := by
  cases hx with
  | non => exact ev_is (ev_andV (ev_isiP (b := false) ha .non (by decide +kernel)) fun z => nomatch z) (show V.bl (false && true) = _ from rfl)
  | bl b => exact ev_is (ev_andV (ev_isiP (b := true) ha (.bl b) (by show kitB "bool" "int" = some true; decide +kernel)) fun _ => ev_notV (ev_isiP (b := true) hb (.bl b) (by show kitB "bool" "bool" = some true; decide +kernel))) rfl
  | int i => exact ev_is (ev_andV (ev_isiP (b := true) ha (.int i) (by show kitB "int" "int" = some true; decide +kernel)) fun _ => ev_notV (ev_isiP (b := false) hb (.int i) (by show kitB "int" "bool" = some false; decide +kernel))) rfl
  | str s => exact ev_is (ev_andV (ev_isiP (b := false) ha (.str s) (by show kitB "str" "int" = some false; decide +kernel)) fun z => nomatch z) (show V.bl (false && true) = _ from rfl)

/-! ### the calendar -/
def leap (y : Int) : Bool := decide (y % 4 = 0) && (decide (y % 100 ≠ 0) || decide (y % 400 = 0))
def monthsL : List Int := [31, 28, 31, 30, 31, 30, 31, 31, 30, 31, 30, 31]
def mlen (y m : Int) : Int := if m = 2 ∧ leap y = true then 29 else monthsL.getD (m - 1).toNat 0
def cumN (y : Int) : Nat → Int
  | 0 => 0
  | k + 1 => cumN y k + mlen y ((k : Int) + 1)
def yst (y : Int) : Int := 365 * (y - 1) + (y - 1) / 4 - (y - 1) / 100 + (y - 1) / 400
def dayN (y m d : Int) : Int := -719162 + (yst y + cumN y (m - 1).toNat) + d - 1
def isD (y m d : Int) : Prop := (1 ≤ y ∧ y ≤ 9999) ∧ (1 ≤ m ∧ m ≤ 12) ∧ (1 ≤ d ∧ d ≤ mlen y m)
instance (y m d : Int) : Decidable (isD y m d) := by unfold isD; infer_instance
theorem month_cases {m : Int} (h : 1 ≤ m ∧ m ≤ 12) : m = 1 ∨ m = 2 ∨ m = 3 ∨ m = 4 ∨ m = 5 ∨ m = 6 ∨ m = 7 ∨ m = 8 ∨ m = 9 ∨ m = 10 ∨ m = 11 ∨ m = 12 := by omega
theorem mlen_in {y m : Int} (h : 1 ≤ m ∧ m ≤ 12) : 28 ≤ mlen y m ∧ mlen y m ≤ 31 := by
  unfold mlen
  split
  · omega
  · rcases month_cases h with rfl | rfl | rfl | rfl | rfl | rfl | rfl | rfl | rfl | rfl | rfl | rfl <;> decide
theorem cum12 (y : Int) : cumN y 12 = 365 + (if leap y = true then 1 else 0) := by
  simp only [cumN, mlen, monthsL]
  by_cases h : leap y = true
  · simp [h]
  · simp [h]
theorem cum_mono (y : Int) {j k : Nat} (h : j ≤ k) (hk : k ≤ 12) : cumN y j ≤ cumN y k := by
  induction k with
  | zero => rw [Nat.le_zero.mp h]; exact Int.le_refl _
  | succ k ih =>
    by_cases e : j = k + 1
    · rw [e]; exact Int.le_refl _
    · have h1 := ih (by omega) (by omega)
      have h2 := mlen_in (y := y) (m := (k : Int) + 1) (by omega)
      show cumN y j ≤ cumN y k + mlen y ((k : Int) + 1)
      omega
theorem cum_nn (y : Int) {k : Nat} (hk : k ≤ 12) : 0 ≤ cumN y k := cum_mono y (j := 0) (by omega) hk
theorem leap_iff (y : Int) : leap y = true ↔ y % 4 = 0 ∧ (y % 100 ≠ 0 ∨ y % 400 = 0) := by
  unfold leap
  rw [Bool.and_eq_true, Bool.or_eq_true, decide_eq_true_eq, decide_eq_true_eq, decide_eq_true_eq]
theorem yst_succ (y : Int) : yst (y + 1) = yst y + cumN y 12 := by
  rw [cum12]
  unfold yst
  by_cases h : leap y = true
  · rw [if_pos h]
    have := (leap_iff y).mp h
    omega
  · rw [if_neg h]
    have : ¬ (y % 4 = 0 ∧ (y % 100 ≠ 0 ∨ y % 400 = 0)) := fun z => h ((leap_iff y).mpr z)
    omega
theorem yst_mono {y z : Int} (h : y ≤ z) : yst y ≤ yst z := by
  unfold yst
  omega
/-- a date within its year -/
theorem in_year {y m d : Int} (h : isD y m d) : 0 ≤ cumN y (m - 1).toNat + d - 1 ∧ cumN y (m - 1).toNat + d - 1 < cumN y 12 ∧ cumN y (m - 1).toNat + d ≤ cumN y m.toNat := by
  obtain ⟨_, hm, hd⟩ := h
  have e : m.toNat = (m - 1).toNat + 1 := by omega
  have h1 := cum_nn y (k := (m - 1).toNat) (by omega)
  have h2 : cumN y m.toNat = cumN y (m - 1).toNat + mlen y m := by
    rw [e]
    show cumN y (m - 1).toNat + mlen y (((m - 1).toNat : Int) + 1) = _
    rw [show (((m - 1).toNat : Int) + 1) = m by omega]
  have h3 := cum_mono y (j := m.toNat) (k := 12) (by omega) (by omega)
  omega
theorem day_inj {y m d y' m' d' : Int} (h : isD y m d) (h' : isD y' m' d') (e : dayN y m d = dayN y' m' d') : y = y' ∧ m = m' ∧ d = d' := by
  obtain ⟨a1, a2, a3⟩ := in_year h
  obtain ⟨b1, b2, b3⟩ := in_year h'
  unfold dayN at e
  have ey : y = y' := by
    by_cases l : y < y'
    · have := yst_mono (show y + 1 ≤ y' by omega)
      rw [yst_succ] at this
      omega
    · by_cases g : y' < y
      · have := yst_mono (show y' + 1 ≤ y by omega)
        rw [yst_succ] at this
        omega
      · omega
  subst ey
  have em : m = m' := by
    by_cases l : m < m'
    · have := cum_mono y (j := m.toNat) (k := (m' - 1).toNat) (by have := h'.2.1; omega) (by have := h'.2.1; omega)
      have := h'.2.2.1
      omega
    · by_cases g : m' < m
      · have := cum_mono y (j := m'.toNat) (k := (m - 1).toNat) (by have := h.2.1; omega) (by have := h.2.1; omega)
        have := h.2.2.1
        omega
      · omega
  subst em
  exact ⟨rfl, rfl, by omega⟩
theorem day_in {y m d : Int} (h : isD y m d) : -719162 ≤ dayN y m d ∧ dayN y m d ≤ 2932896 := by
  obtain ⟨a1, a2, a3⟩ := in_year h
  have h1 := yst_mono h.1.1
  have h2 := yst_mono (show y + 1 ≤ 10000 by have := h.1.2; omega)
  rw [yst_succ] at h2
  have e1 : yst 1 = 0 := by decide
  have e2 : yst 10000 = 3652059 := by decide
  unfold dayN
  omega
/-- the parts of a day's number: cycles, centuries, fours, years, the rest -/
theorem parts {D c h f g r : Int} (hD : D = 146097 * c + 36524 * h + 1461 * f + 365 * g + r) (hc : 0 ≤ c ∧ c ≤ 24) (hh : 0 ≤ h ∧ h ≤ 3) (hf : 0 ≤ f ∧ f ≤ 24) (hg : 0 ≤ g ∧ g ≤ 3) (hr : 0 ≤ r ∧ r ≤ 365)
    (hl : r = 365 → g = 3 ∧ (f = 24 → h = 3)) : D = yst (400 * c + 100 * h + 4 * f + g + 1) + r ∧ r < cumN (400 * c + 100 * h + 4 * f + g + 1) 12 ∧ 1 ≤ 400 * c + 100 * h + 4 * f + g + 1 ∧ 400 * c + 100 * h + 4 * f + g + 1 ≤ 10000 := by
  have e4 : (400 * c + 100 * h + 4 * f + g) / 4 = 100 * c + 25 * h + f := by omega
  have e100 : (400 * c + 100 * h + 4 * f + g) / 100 = 4 * c + h := by omega
  have e400 : (400 * c + 100 * h + 4 * f + g) / 400 = c := by omega
  refine ⟨?_, ?_, by omega, by omega⟩
  · unfold yst
    rw [show 400 * c + 100 * h + 4 * f + g + 1 - 1 = 400 * c + 100 * h + 4 * f + g by omega, e4, e100, e400]
    omega
  · rw [cum12]
    by_cases e : r = 365
    · obtain ⟨l1, l2⟩ := hl e
      rw [if_pos ((leap_iff _).mpr ?_)]
      · omega
      · constructor
        · omega
        · by_cases q : f = 24
          · have := l2 q
            right
            omega
          · left
            omega
    · split <;> omega
noncomputable def dt (day : Int) : Int × Int × Int := by
  classical exact if h : ∃ t : Int × Int × Int, isD t.1 t.2.1 t.2.2 ∧ dayN t.1 t.2.1 t.2.2 = day then Classical.choose h else (0, 0, 0)
theorem dt_of {y m d : Int} (h : isD y m d) : dt (dayN y m d) = (y, m, d) := by
  have hx : ∃ t : Int × Int × Int, isD t.1 t.2.1 t.2.2 ∧ dayN t.1 t.2.1 t.2.2 = dayN y m d := ⟨(y, m, d), h, rfl⟩
  unfold dt
  rw [dif_pos hx]
  obtain ⟨h1, h2⟩ := Classical.choose_spec hx
  obtain ⟨e1, e2, e3⟩ := day_inj h1 h h2
  exact Prod.ext e1 (Prod.ext e2 e3)
theorem dt_eq {day y m d : Int} (h : isD y m d) (e : dayN y m d = day) : dt day = (y, m, d) := by
  rw [← e]
  exact dt_of h
/-- the year's day r, found month by month -/
theorem month_of {y r : Int} (h0 : 0 ≤ r) (h1 : r < cumN y 12) : ∃ k : Nat, k ≤ 11 ∧ cumN y k ≤ r ∧ r < cumN y (k + 1) := by
  have key : ∀ j : Nat, j ≤ 12 → r < cumN y j → ∃ k : Nat, k < j ∧ cumN y k ≤ r ∧ r < cumN y (k + 1) := by
    intro j
    induction j with
    | zero => intro _ h; exact absurd h (by show ¬ r < 0; omega)
    | succ j ih =>
      intro hj h
      by_cases q : r < cumN y j
      · obtain ⟨k, a, b, c⟩ := ih (by omega) q
        exact ⟨k, by omega, b, c⟩
      · exact ⟨j, by omega, by omega, h⟩
  obtain ⟨k, a, b, c⟩ := key 12 (by omega) h1
  exact ⟨k, by omega, b, c⟩
theorem day_split {day : Int} (h : -719162 ≤ day ∧ day ≤ 2932896) : ∃ y m d, isD y m d ∧ dayN y m d = day := by
  have key : ∀ D : Int, 0 ≤ D → D < 3652059 → ∃ y r : Int, 1 ≤ y ∧ y ≤ 9999 ∧ D = yst y + r ∧ 0 ≤ r ∧ r < cumN y 12 := by
    intro D h0 h1
    have p := parts (D := D) (c := D / 146097) (h := if D % 146097 / 36524 < 3 then D % 146097 / 36524 else 3)
      (f := (D % 146097 - (if D % 146097 / 36524 < 3 then D % 146097 / 36524 else 3) * 36524) / 1461)
      (g := if (D % 146097 - (if D % 146097 / 36524 < 3 then D % 146097 / 36524 else 3) * 36524) % 1461 / 365 < 3 then (D % 146097 - (if D % 146097 / 36524 < 3 then D % 146097 / 36524 else 3) * 36524) % 1461 / 365 else 3)
      (r := (D % 146097 - (if D % 146097 / 36524 < 3 then D % 146097 / 36524 else 3) * 36524) % 1461 - 365 * (if (D % 146097 - (if D % 146097 / 36524 < 3 then D % 146097 / 36524 else 3) * 36524) % 1461 / 365 < 3 then (D % 146097 - (if D % 146097 / 36524 < 3 then D % 146097 / 36524 else 3) * 36524) % 1461 / 365 else 3))
      (by split <;> split <;> omega) (by omega) (by split <;> omega) (by split <;> omega) (by split <;> split <;> omega) (by split <;> split <;> omega) (by split <;> split <;> omega)
    obtain ⟨p1, p2, p3, p4⟩ := p
    refine ⟨_, _, p3, ?_, p1, ?_, p2⟩
    · refine Int.not_lt.mp fun z => ?_
      have := yst_mono (show 10000 ≤ _ from z)
      rw [show yst 10000 = 3652059 by decide] at this
      have hr : 0 ≤ (D % 146097 - (if D % 146097 / 36524 < 3 then D % 146097 / 36524 else 3) * 36524) % 1461 - 365 * (if (D % 146097 - (if D % 146097 / 36524 < 3 then D % 146097 / 36524 else 3) * 36524) % 1461 / 365 < 3 then (D % 146097 - (if D % 146097 / 36524 < 3 then D % 146097 / 36524 else 3) * 36524) % 1461 / 365 else 3) := by split <;> split <;> omega
      omega
    · split <;> split <;> omega
  obtain ⟨y, r, h1, h2, h3, h4, h5⟩ := key (day + 719162) (by omega) (by omega)
  obtain ⟨k, k1, k2, k3⟩ := month_of h4 h5
  have k3' : r < cumN y k + mlen y ((k : Int) + 1) := k3
  refine ⟨y, (k : Int) + 1, r - cumN y k + 1, ⟨⟨h1, h2⟩, ⟨by omega, by omega⟩, by omega, by omega⟩, ?_⟩
  unfold dayN
  rw [show ((k : Int) + 1 - 1).toNat = k by omega]
  omega
theorem dt_ok {day : Int} (h : -719162 ≤ day ∧ day ≤ 2932896) : isD (dt day).1 (dt day).2.1 (dt day).2.2 ∧ dayN (dt day).1 (dt day).2.1 (dt day).2.2 = day := by
  obtain ⟨y, m, d, h1, h2⟩ := day_split h
  rw [dt_eq h1 h2]
  exact ⟨h1, h2⟩

def topS (i : Nat) : Stmt := PySem.Challenge.pw_stylobate_k03_days_and_dates.main.body.getD i (.Pass ⟨0, 0, 0, 0⟩)
abbrev s_is_integer : Stmt := topS 1
abbrev n_is_integer : List Str := ["value"]
theorem sc_is_integer : FnScope n_is_integer ["value"] (C8.fnScope s_is_integer) := C8.fnScope_by (by decide +kernel)
abbrev s_is_day : Stmt := topS 11
abbrev n_is_day : List Str := ["value"]
theorem sc_is_day : FnScope n_is_day ["value"] (C8.fnScope s_is_day) := C8.fnScope_by (by decide +kernel)
abbrev s__is_leap : Stmt := topS 12
abbrev n__is_leap : List Str := ["year"]
theorem sc__is_leap : FnScope n__is_leap ["year"] (C8.fnScope s__is_leap) := C8.fnScope_by (by decide +kernel)
abbrev s_month_length : Stmt := topS 13
abbrev n_month_length : List Str := ["year", "month"]
theorem sc_month_length : FnScope n_month_length ["year", "month"] (C8.fnScope s_month_length) := C8.fnScope_by (by decide +kernel)
abbrev s_day_of : Stmt := topS 14
abbrev n_day_of : List Str := ["year", "month", "date", "gone", "days", "earlier"]
theorem sc_day_of : FnScope n_day_of ["year", "month", "date"] (C8.fnScope s_day_of) := C8.fnScope_by (by decide +kernel)
abbrev s_date_of : Stmt := topS 15
abbrev n_date_of : List Str := ["day", "cycles", "rest", "centuries", "fours", "years", "year", "month"]
theorem sc_date_of : FnScope n_date_of ["day"] (C8.fnScope s_date_of) := C8.fnScope_by (by decide +kernel)
abbrev s__law_numbers : Stmt := topS 17
abbrev n__law_numbers : List Str := ["script", "count", "numbers", "k", "cell"]
theorem sc__law_numbers : FnScope n__law_numbers ["script", "count"] (C8.fnScope s__law_numbers) := C8.fnScope_by (by decide +kernel)
abbrev s__law_is_integer : Stmt := topS 18
abbrev n__law_is_integer : List Str := ["value"]
theorem sc__law_is_integer : FnScope n__law_is_integer ["value"] (C8.fnScope s__law_is_integer) := C8.fnScope_by (by decide +kernel)
abbrev s__law_length : Stmt := topS 19
abbrev n__law_length : List Str := ["year", "month"]
theorem sc__law_length : FnScope n__law_length ["year", "month"] (C8.fnScope s__law_length) := C8.fnScope_by (by decide +kernel)
abbrev s__law_next : Stmt := topS 20
abbrev n__law_next : List Str := ["date", "year", "month", "number"]
theorem sc__law_next : FnScope n__law_next ["date"] (C8.fnScope s__law_next) := C8.fnScope_by (by decide +kernel)
abbrev s__law_is_date : Stmt := topS 21
abbrev n__law_is_date : List Str := ["date", "part"]
theorem sc__law_is_date : FnScope n__law_is_date ["date"] (C8.fnScope s__law_is_date) := C8.fnScope_by (by decide +kernel)
abbrev s_law : Stmt := topS 22
abbrev n_law : List Str := ["script", "numbers", "day", "near", "date", "year", "month", "number", "told"]
theorem sc_law : FnScope n_law ["script"] (C8.fnScope s_law) := C8.fnScope_by (by decide +kernel)
/-! ### the law's numbers -/
def cell0 (ns : List Int) (k : Nat) : Int := if 0 < ns.length then ns.getD (k - k / ns.length * ns.length) 0 else 0
def cell1 (ns : List Int) (k : Nat) : Int := if cell0 ns k < 0 then 1 - 2 * cell0 ns k else cell0 ns k
def cellM (c : Int) (k : Nat) : Int := (((c + 101 * (k : Int) + 13) * 40692 + (k : Int) * (k : Int) * 6271) % 2147483399 + 29 * (k : Int) + 5) * 3935559000370003845 % 18446744073709551533
def cellN (ns : List Int) (k : Nat) : Int := if (ns.length : Int) ≤ (k : Int) ∨ cell1 ns k < 1000000000 then cellM (cell1 ns k) k else cell1 ns k
def lawN (ns : List Int) (c : Nat) : List Int := (List.range c).map (cellN ns)
theorem cell1_nn (ns : List Int) (k : Nat) : 0 ≤ cell1 ns k := by
  unfold cell1
  split <;> omega
theorem cellN_nn (ns : List Int) (k : Nat) : 0 ≤ cellN ns k := by
  unfold cellN
  split
  · unfold cellM
    exact Int.emod_nonneg _ (by decide)
  · exact cell1_nn ns k
theorem lawN_len (ns : List Int) (c : Nat) : (lawN ns c).length = c := by
  unfold lawN
  rw [List.length_map, List.length_range]
theorem lawN_nn {ns : List Int} {c : Nat} : ∀ n ∈ lawN ns c, 0 ≤ n := by
  intro n h
  unfold lawN at h
  obtain ⟨k, _, e⟩ := List.mem_map.mp h
  rw [← e]
  exact cellN_nn ns k
theorem lawN_get {ns : List Int} {c i : Nat} (h : i < c) : (lawN ns c)[i]? = some (cellN ns i) := by
  unfold lawN
  rw [List.getElem?_map, List.getElem?_range h] <;> rfl
/-- the k-th of them, as the law's list of values -/
theorem lawN_at {ns : List Int} {c i : Nat} (h : i < c) : atI ((lawN ns c).map V.int) (i : Int) = some (.int (cellN ns i)) := atI_nat (by
  rw [List.getElem?_map, lawN_get h] <;> rfl)
def sp__law_numbers (K : PySem.W.Frag) : Sp := fun vs H Q _ => ∃ (a : Addr) (ns : List Int) (c : Nat), vs = [.ref a, .int (c : Int)] ∧ SqL K H a (ns.map V.int) ∧ ns.length ≤ 63 ∧ c ≤ 1000 ∧
  ∀ p H', H p = none → Ex H H' → H' p = some (.lst ((lawN ns c).map V.int)) → Q (.ref p) H'
section
variable {P : Program} {w : World} {K : PySem.W.Frag} {mg : Str → Option Value} {base : Heap}
theorem ok__law_numbers (D : Dn K mg "_law_numbers" s__law_numbers ["script", "count"]) (z_int : mg "int" = none) (z_len : mg "len" = none) (z_range : mg "range" = none) :
    C8.Cal P w K mg base 1 "_law_numbers" (sp__law_numbers K) [] := by
  refine cal_of D sc__law_numbers (fun vs H Q E h => ?_) (fun f cdv A outer s H vs Q E hr h => ?_)
  · obtain ⟨_, _, _, rfl, _⟩ := h
    rfl
  refine ⟨_, (pss_cons (ps_set (i := 2) sc__law_numbers.nd rfl (.inl rfl) (pe_lst pa_nil))
    (pss_cons (ps_for PassesOwn.never rfl (pi_range1 rfl z_range (pa_cons (pv 1) pa_nil)) (pg_name (i := 3) sc__law_numbers.nd rfl (.inl rfl))
      (pss_cons (ps_set (i := 4) sc__law_numbers.nd rfl (.inl rfl) pe_int)
    (pss_cons (ps_if (pt_cmpR op_gt (pe_callB call_len_seq (by rfl) z_len PySem.boot_len (pa_cons (pv 0) pa_nil)) pe_int (nomark _))
      (pss_one (ps_set (i := 4) sc__law_numbers.nd rfl (.inl rfl) (pe_callTy call_int1 (by rfl) z_int (by decide +kernel) (pa_cons (pe_ix ix_list (pv 0) (pe_op op_sub (pv 3) (pe_op op_mul (pe_op op_fdiv (pv 3) (pe_callB call_len_seq (by rfl) z_len PySem.boot_len (pa_cons (pv 0) pa_nil))) (pe_callB call_len_seq (by rfl) z_len PySem.boot_len (pa_cons (pv 0) pa_nil)))) (fun _ _ => rfl)) pa_nil))))
      pss_nil)
    (pss_cons (ps_if (pt_cmpR op_lt (pv 4) pe_int (nomark _))
      (pss_one (ps_set (i := 4) sc__law_numbers.nd rfl (.inl rfl) (pe_op op_sub pe_int (pe_op op_mul pe_int (pv 4)))))
      pss_nil)
    (Evl.pss_cut (ps_if (PW.pt (pw_or (pt_cmpR op_ge (pv 3) (pe_callB call_len_seq (by rfl) z_len PySem.boot_len (pa_cons (pv 0) pa_nil)) (nomark _)) (pw_or1 (pt_cmpR op_lt (pv 4) pe_int (nomark _)))))
      (pss_cons (ps_set (i := 4) sc__law_numbers.nd rfl (.inl rfl) (pe_op op_mod (pe_callTy call_int1 (by rfl) z_int (by decide +kernel) (pa_cons (pe_op op_add (pe_op op_mul (pe_op op_add (pe_op op_add (pv 4) (pe_op op_mul pe_int (pv 3))) pe_int) pe_int) (pe_op op_mul (pe_op op_mul (pv 3) (pv 3)) pe_int)) pa_nil)) pe_int))
    (pss_one (ps_set (i := 4) sc__law_numbers.nd rfl (.inl rfl) (pe_op op_mod (pe_callTy call_int1 (by rfl) z_int (by decide +kernel) (pa_cons (pe_op op_mul (pe_op op_add (pe_op op_add (pv 4) (pe_op op_mul pe_int (pv 3))) pe_int) pe_int) pa_nil)) pe_int))))
      pss_nil)
    (pss_one (ps_expr (pe_bm PySem.F.plainAttrs_list PySem.F.slot_list_append PySem.F.type_list_append mt_append (pv 2) (pa_cons (pv 4) pa_nil)))))))))
    (pss_one (ps_ret (pv 2))))), ?_⟩
  obtain ⟨a, ns, c, rfl, hS, h63, hc, q⟩ := h
  have hl : (ns.map V.int).length = ns.length := List.length_map _
  refine q_asgL (el_lst ea_nil (by decide)) fun p H1 hp e1 h1 => ?_
  refine q_forR1 (n := (c : Int)) (ea_cons (ev_var rfl) ea_nil) ⟨by omega, by omega⟩
    (fun i σ H' => ∃ y3 y4, σ = [some (.ref a), some (.int (c : Int)), some (.ref p), y3, y4] ∧ Ex H H' ∧ H' p = some (.lst ((lawN ns i).map V.int)))
    (fun H2 e2 => ⟨none, none, rfl, e1.trans e2, e2 _ _ h1⟩) (fun i σ H2 hi hw => ?_) (fun σ H2 hw => ?_)
  · obtain ⟨y3, y4, rfl, e2, h2⟩ := hw
    have hS2 : SqL K H2 a (ns.map V.int) := ex_l e2 hS
    refine q_asg ev_c fun H3 e3 => ?_
    have hS3 : SqL K H3 a (ns.map V.int) := ex_l e3 hS2
    -- the cell as the script has it
    refine q_ifAsg (v := .int (cell0 ns i)) (b := decide ((0 : Int) < ((ns.map V.int).length : Int))) ?_ (fun hb => ?_) (fun hb => ?_) fun H4 e4 => ?_
    · walk_at "et"
    · have h0 : 0 < ns.length := by
        have := of_decide_eq_true hb
        rw [hl] at this
        omega
      have em : i / ns.length * ns.length ≤ i := Nat.div_mul_le_self i ns.length
      have hlt : i - i / ns.length * ns.length < ns.length := by
        have := Nat.mod_lt i h0
        have := Nat.div_add_mod i ns.length
        rw [Nat.mul_comm] at this
        omega
      have ea : atI (ns.map V.int) ((i : Int) - (i : Int) / ((ns.map V.int).length : Int) * ((ns.map V.int).length : Int)) = some (.int (cell0 ns i)) := by
        rw [hl]
        have e5 : (i : Int) - (i : Int) / (ns.length : Int) * (ns.length : Int) = ((i - i / ns.length * ns.length : Nat) : Int) := by
          rw [Int.ofNat_sub em, Int.natCast_mul, Int.natCast_ediv]
        rw [e5]
        refine atI_nat ?_
        unfold cell0
        rw [if_pos h0, List.getElem?_map, List.getElem?_eq_getElem hlt, List.getD_eq_getElem?_getD, List.getElem?_eq_getElem hlt] <;> rfl
      refine ev_int (ev_op (ev_var rfl) (ev_op (ev_var rfl) (ev_op (ev_op (ev_var rfl) (ev_len (ev_var rfl) hS3) (rv_I ⟨?_, ?_⟩)) (ev_len (ev_var rfl) hS3) (rv_I ?_)) rv_I0) (rv_ixL hS3 ea))
      · rw [hl]; omega
      · rw [hl]; omega
      · rw [hl]; exact .inr ⟨by omega, by omega⟩
    · have h0 : ¬ 0 < ns.length := by
        have := of_decide_eq_false hb
        rw [hl] at this
        omega
      unfold cell0
      rw [if_neg h0]
      rfl
    have hS4 : SqL K H4 a (ns.map V.int) := ex_l e4 hS3
    refine q_ifAsg (v := .int (cell1 ns i)) (b := decide (cell0 ns i < 0)) (by walk_at "et") (fun hb => ?_) (fun hb => ?_) fun H5 e5 => ?_
    · refine ev_is (v := .int (1 - 2 * cell0 ns i)) (by walk_at "ev") ?_
      unfold cell1
      rw [if_pos (of_decide_eq_true hb)]
    · unfold cell1
      rw [if_neg (of_decide_eq_false hb)]
      rfl
    have hS5 : SqL K H5 a (ns.map V.int) := ex_l e5 hS4
    have h5 : H5 p = some (.lst ((lawN ns i).map V.int)) := e5 _ _ (e4 _ _ (e3 _ _ h2))
    have x5 : Ex H H5 := ((e2.trans e3).trans e4).trans e5
    -- the cell mixed
    refine q_cut (M := fun σ H' => σ = [some (.ref a), some (.int (c : Int)), some (.ref p), some (.int (i : Int)), some (.int (cellN ns i))] ∧ Ex H5 H') ?_ ?_
    · refine s_if (b := decide ((((ns.map V.int).length : Nat) : Int) ≤ (i : Int)) || decide (cell1 ns i < 1000000000)) ?_ (fun hb H6 e6 => ?_) (fun hb H6 e6 => ?_)
      · exact et_or (et_test (ev_op (ev_var rfl) (ev_len (ev_var rfl) hS5) rv_I0)) fun _ => et_test (ev_op (ev_var rfl) ev_c rv_I0)
      · have hb' : (ns.length : Int) ≤ (i : Int) ∨ cell1 ns i < 1000000000 := by
          rw [Bool.or_eq_true, decide_eq_true_eq, decide_eq_true_eq, hl] at hb
          exact hb
        refine q_asg (v := .int (((cell1 ns i + 101 * (i : Int) + 13) * 40692 + (i : Int) * (i : Int) * 6271) % 2147483399)) ?_ fun H7 e7 => ?_
        · refine ev_op (ev_int (ev_op (ev_op (ev_op (ev_op (ev_var rfl) (ev_op ev_c (ev_var rfl) (rv_I (.inl ⟨by decide, by decide⟩))) rv_I0) ev_c rv_I0) ev_c (rv_I (.inr ⟨by decide, by decide⟩))) (ev_op (ev_op (ev_var rfl) (ev_var rfl) (rv_I (.inl ⟨by omega, by omega⟩))) ev_c (rv_I (.inr ⟨by decide, by decide⟩))) rv_I0)) ev_c (rv_I (by decide))
        refine s_asg (v := .int (cellN ns i)) ?_ fun H8 e8 => ⟨rfl, (e6.trans e7).trans e8⟩
        refine ev_is (ev_op (ev_int (ev_op (ev_op (ev_op (ev_var rfl) (ev_op ev_c (ev_var rfl) (rv_I (.inl ⟨by decide, by decide⟩))) rv_I0) ev_c rv_I0) ev_c (rv_I (.inr ⟨by decide, by decide⟩)))) ev_c (rv_I (by decide))) ?_
        unfold cellN
        rw [if_pos hb']
        rfl
      · have hb' : ¬ ((ns.length : Int) ≤ (i : Int) ∨ cell1 ns i < 1000000000) := by
          intro z
          rw [Bool.or_eq_false_iff, decide_eq_false_iff_not, decide_eq_false_iff_not, hl] at hb
          rcases z with z | z
          · exact hb.1 z
          · exact hb.2 z
        refine ⟨?_, e6⟩
        unfold cellN
        rw [if_neg hb']
        rfl
    · intro σ' H' hm
      obtain ⟨rfl, x6⟩ := hm
      refine s_app (x6 _ _ h5) (ev_var rfl) (ev_var rfl) (by rw [List.length_map, lawN_len]; omega) fun H7 e7 => ?_
      refine ⟨_, _, rfl, Ex.mut ((x5.trans x6).trans e7) hp, ?_⟩
      rw [upd_same]
      unfold lawN
      rw [List.range_succ, List.map_append, List.map_append]
      rfl
  · obtain ⟨y3, y4, rfl, e2, h2⟩ := hw
    have ec : ((c : Int)).toNat = c := by omega
    rw [ec] at h2
    exact s_ret (ev_var rfl) fun H3 e3 => q p H3 hp (e2.trans e3) (e3 _ _ h2)
end

/-! ### the program's calendar -/
def dayV (y m d : Int) : V := if isD y m d then .int (dayN y m d) else .non
def tri (t : Int × Int × Int) : List V := [.int t.1, .int t.2.1, .int t.2.2]
def sp__is_leap (K : PySem.W.Frag) : Sp := fun vs H Q _ => ∃ y : Int, vs = [.int y] ∧ ∀ H', Ex H H' → Q (.bl (leap y)) H'
def sp_month_length (K : PySem.W.Frag) : Sp := fun vs H Q _ => ∃ y m : Int, vs = [.int y, .int m] ∧ (1 ≤ m ∧ m ≤ 12) ∧ ∀ H', Ex H H' → Q (.int (mlen y m)) H'
def sp_day_of (K : PySem.W.Frag) : Sp := fun vs H Q _ => ∃ y m d : Int, vs = [.int y, .int m, .int d] ∧ ∀ H', Ex H H' → Q (dayV y m d) H'
def sp_date_of (K : PySem.W.Frag) : Sp := fun vs H Q _ => ∃ d : Int, vs = [.int d] ∧ (-719162 ≤ d ∧ d ≤ 2932896) ∧ ∀ p H', H p = none → Ex H H' → H' p = some (.tup (tri (dt d))) → Q (.ref p) H'
section
variable {P : Program} {w : World} {K : PySem.W.Frag} {mg : Str → Option Value} {base : Heap}
section
variable {σ : L2.St} {H : Hp} {ta tb tc : TE} {E : XK} {y m d : Int}
theorem ec_leap (ha : Ev ta σ H (.int y)) : Ev (tCall (sp__is_leap K) [] E (tCons ta tNil)) σ H (.bl (leap y)) := ev_call (ea_cons ha ea_nil) fun H1 e Q q E => ⟨y, rfl, q⟩
theorem ec_mlen (ha : Ev ta σ H (.int y)) (hb : Ev tb σ H (.int m)) (h : 1 ≤ m ∧ m ≤ 12) : Ev (tCall (sp_month_length K) [] E (tCons ta (tCons tb tNil))) σ H (.int (mlen y m)) := ev_call (ea_cons ha (ea_cons hb ea_nil)) fun H1 e Q q E => ⟨y, m, rfl, h, q⟩
theorem ec_day (ha : Ev ta σ H (.int y)) (hb : Ev tb σ H (.int m)) (hc : Ev tc σ H (.int d)) : Ev (tCall (sp_day_of K) [] E (tCons ta (tCons tb (tCons tc tNil)))) σ H (dayV y m d) := ev_call (ea_cons ha (ea_cons hb (ea_cons hc ea_nil))) fun H1 e Q q E => ⟨y, m, d, rfl, q⟩
theorem ec_date (ha : Ev ta σ H (.int d)) (h : -719162 ≤ d ∧ d ≤ 2932896) : EvU (tCall (sp_date_of K) [] E (tCons ta tNil)) σ H (tri (dt d)) := eu_call (ea_cons ha ea_nil) fun H1 e Q q E => ⟨d, rfl, h, q⟩
end
theorem ok__is_leap (D : Dn K mg "_is_leap" s__is_leap ["year"]) :
    C8.Cal P w K mg base 1 "_is_leap" (sp__is_leap K) [] := by
  refine cal_of D sc__is_leap (fun vs H Q E h => ?_) (fun f cdv A outer s H vs Q E hr h => ?_)
  · obtain ⟨_, rfl, _⟩ := h
    rfl
  refine ⟨_, (pss_one (ps_ret (pe_and (pe_cmpR op_eq (pe_op op_mod (pv 0) pe_int) pe_int (nomark _)) (pe_one (pe_or (pe_cmpR op_ne (pe_op op_mod (pv 0) pe_int) pe_int (nomark _)) (pe_one (pe_cmpR op_eq (pe_op op_mod (pv 0) pe_int) pe_int (nomark _)))))))), ?_⟩
  obtain ⟨y, rfl, q⟩ := h
  refine s_ret (v := .bl (leap y)) ?_ fun H2 e2 => q _ e2
  refine ev_is (v := .bl (decide (V.int (y % 4) = V.int 0) && ((!decide (V.int (y % 100) = V.int 0)) || decide (V.int (y % 400) = V.int 0)))) (by walk_at "ev") ?_
  unfold leap
  simp only [V.int.injEq, decide_not, ne_eq]
theorem ok_month_length (D : Dn K mg "month_length" s_month_length ["year", "month"]) (c__is_leap : C8.Cal P w K mg base 1 "_is_leap" (sp__is_leap K) []) {p__MONTHS : Addr} (g__MONTHS : ∃ u, mg "_MONTHS" = some u ∧ RelV (.ref p__MONTHS) u) (h__MONTHS : ∀ H : Hp, SqT K H p__MONTHS (monthsL.map V.int)) :
    C8.Cal P w K mg base 2 "month_length" (sp_month_length K) [] := by
  refine cal_of D sc_month_length (fun vs H Q E h => ?_) (fun f cdv A outer s H vs Q E hr h => ?_)
  · obtain ⟨_, _, rfl, _⟩ := h
    rfl
  refine ⟨_, (pss_cons (ps_if (PW.pt (pw_and (pt_cmpR op_eq (pv 1) pe_int (nomark _)) (pw_and1 (pt_val (C8.pe_c c__is_leap hr (by decide) (by rfl) (pa_cons (pv 0) pa_nil))))))
      (pss_one (ps_ret pe_int))
      pss_nil)
    (pss_one (ps_ret (pe_ix ix_tup (C8.pe_gc rfl g__MONTHS) (pe_op op_sub (pv 1) pe_int) (fun _ _ => rfl))))), ?_⟩
  obtain ⟨y, m, rfl, hm, q⟩ := h
  refine q_when (b := decide (V.int m = V.int 2) && leap y) (et_and (by walk_at "et") fun _ => et_B (ec_leap (ev_var rfl))) (fun hb H1 e1 => s_ret (v := .int (mlen y m)) ?_ fun H2 e2 => q _ (e1.trans e2)) fun hb H1 e1 => s_ret (v := .int (mlen y m)) ?_ fun H2 e2 => q _ (e1.trans e2)
  · refine ev_is ev_c ?_
    rw [Bool.and_eq_true, decide_eq_true_eq] at hb
    unfold mlen
    rw [if_pos ⟨V.int.inj hb.1, hb.2⟩]
  · have nb : ¬ (m = 2 ∧ leap y = true) := fun z => by
      rw [z.2, decide_eq_true (by rw [z.1])] at hb
      cases hb
    obtain ⟨u, g1, g2⟩ := g__MONTHS
    refine ev_op ev_c (ev_op (ev_var rfl) ev_c rv_I0) (rv_ixT (h__MONTHS H1) ?_)
    have e : m - 1 = (((m - 1).toNat : Nat) : Int) := by omega
    unfold mlen
    rw [if_neg nb, e]
    refine atI_nat ?_
    rw [List.getElem?_map, Int.toNat_natCast]
    have hl : (m - 1).toNat < monthsL.length := by show _ < 12; omega
    rw [List.getElem?_eq_getElem hl, List.getD_eq_getElem?_getD, List.getElem?_eq_getElem hl]
    rfl
theorem ok_day_of (D : Dn K mg "day_of" s_day_of ["year", "month", "date"]) (c_month_length : C8.Cal P w K mg base 2 "month_length" (sp_month_length K) []) (z_range : mg "range" = none) (g_FIRST_DAY : ∃ u, mg "FIRST_DAY" = some u ∧ RelV (.int (-719162)) u) (g__DAYS_OF_YEAR : ∃ u, mg "_DAYS_OF_YEAR" = some u ∧ RelV (.int (365)) u) (g__LAST_YEAR : ∃ u, mg "_LAST_YEAR" = some u ∧ RelV (.int (9999)) u) :
    C8.Cal P w K mg base 3 "day_of" (sp_day_of K) [] := by
  refine cal_of D sc_day_of (fun vs H Q E h => ?_) (fun f cdv A outer s H vs Q E hr h => ?_)
  · obtain ⟨_, _, _, rfl, _⟩ := h
    rfl
  refine ⟨_, (pss_cons (ps_if (pt_not (PW.pt (pw_and (pt_chain op_le op_le pe_int (pv 0) (C8.pe_gc rfl g__LAST_YEAR)) (pw_and1 (pt_chain op_le op_le pe_int (pv 1) pe_int)))))
      (pss_one (ps_ret pe_non))
      pss_nil)
    (pss_cons (ps_if (pt_not (pt_chain op_le op_le pe_int (pv 2) (C8.pe_c c_month_length hr (by decide) (by rfl) (pa_cons (pv 0) (pa_cons (pv 1) pa_nil)))))
      (pss_one (ps_ret pe_non))
      pss_nil)
    (pss_cons (ps_set (i := 3) sc_day_of.nd rfl (.inl rfl) (pe_op op_sub (pv 0) pe_int))
    (pss_cons (ps_set (i := 4) sc_day_of.nd rfl (.inl rfl) (pe_op op_add (pe_op op_sub (pe_op op_add (pe_op op_mul (C8.pe_gc rfl g__DAYS_OF_YEAR) (pv 3)) (pe_op op_fdiv (pv 3) pe_int)) (pe_op op_fdiv (pv 3) pe_int)) (pe_op op_fdiv (pv 3) pe_int)))
    (pss_cons (ps_for PassesOwn.never rfl (pi_range2 rfl z_range (pa_cons pe_int (pa_cons (pv 1) pa_nil))) (pg_name (i := 5) sc_day_of.nd rfl (.inl rfl))
      (pss_one (ps_aug (i := 4) sc_day_of.nd rfl (.inl rfl) (C8.pe_c c_month_length hr (by decide) (by rfl) (pa_cons (pv 0) (pa_cons (pv 5) pa_nil))) ip_add)))
    (pss_one (ps_ret (pe_op op_sub (pe_op op_add (pe_op op_add (C8.pe_gc rfl g_FIRST_DAY) (pv 4)) (pv 2)) pe_int)))))))), ?_⟩
  obtain ⟨y, m, d, rfl, q⟩ := h
  refine q_when (b := !((decide (1 ≤ y) && decide (y ≤ 9999)) && (decide (1 ≤ m) && decide (m ≤ 12)))) ?_ (fun hb H1 e1 => s_ret (v := dayV y m d) ?_ fun H2 e2 => q _ (e1.trans e2)) fun hb H1 e1 => ?_
  · exact et_not (et_and (et_test (ev_chain ev_c (ev_var rfl) rv_I0 (fun _ => ev_c) (fun _ => rv_I0))) fun _ => et_test (ev_chain ev_c (ev_var rfl) rv_I0 (fun _ => ev_c) (fun _ => rv_I0)))
  · refine ev_is ev_c ?_
    unfold dayV
    rw [if_neg]
    intro z
    obtain ⟨⟨a1, a2⟩, ⟨a3, a4⟩, _⟩ := z
    rw [decide_eq_true a1, decide_eq_true a2, decide_eq_true a3, decide_eq_true a4] at hb
    cases hb
  rw [Bool.not_eq_false', Bool.and_eq_true, Bool.and_eq_true, Bool.and_eq_true, decide_eq_true_eq, decide_eq_true_eq, decide_eq_true_eq, decide_eq_true_eq] at hb
  obtain ⟨⟨y1, y2⟩, m1, m2⟩ := hb
  refine q_when (b := !(decide (1 ≤ d) && decide (d ≤ mlen y m))) ?_ (fun hb H2 e2 => s_ret (v := dayV y m d) ?_ fun H3 e3 => q _ ((e1.trans e2).trans e3)) fun hb H2 e2 => ?_
  · exact et_not (et_test (ev_chain ev_c (ev_var rfl) rv_I0 (fun _ => ec_mlen (ev_var rfl) (ev_var rfl) ⟨m1, m2⟩) (fun _ => rv_I0)))
  · refine ev_is ev_c ?_
    unfold dayV
    rw [if_neg]
    intro z
    obtain ⟨_, _, ⟨a1, a2⟩⟩ := z
    rw [decide_eq_true a1, decide_eq_true a2] at hb
    cases hb
  rw [Bool.not_eq_false', Bool.and_eq_true, decide_eq_true_eq, decide_eq_true_eq] at hb
  have hD : isD y m d := ⟨⟨y1, y2⟩, ⟨m1, m2⟩, hb⟩
  refine q_asg (v := .int (y - 1)) (by walk_at "ev") fun H3 e3 => ?_
  refine q_asg (v := .int (yst y)) ?_ fun H4 e4 => ?_
  · exact ev_op (ev_op (ev_op (ev_op ev_c (ev_var rfl) (rv_I (.inl ⟨by decide, by decide⟩))) (ev_op (ev_var rfl) ev_c (rv_I ⟨by decide, by decide⟩)) rv_I0) (ev_op (ev_var rfl) ev_c (rv_I ⟨by decide, by decide⟩)) rv_I0) (ev_op (ev_var rfl) ev_c (rv_I ⟨by decide, by decide⟩)) rv_I0
  have x4 := ((e1.trans e2).trans e3).trans e4
  refine q_forR2 (lo := 1) (n := m) (ea_cons ev_c (ea_cons (ev_var rfl) ea_nil)) ⟨by omega, by omega, by omega, by omega⟩
    (fun i σ H' => ∃ y5, σ = [some (.int y), some (.int m), some (.int d), some (.int (y - 1)), some (.int (yst y + cumN y i)), y5] ∧ Ex H H')
    (fun H5 e5 => ⟨none, by show _ = [_, _, _, _, some (V.int (yst y + 0)), _]; rw [Int.add_zero]; rfl, x4.trans e5⟩) (fun i σ H5 hi hw => ?_) (fun σ H5 hw => ?_)
  · obtain ⟨y5, rfl, e5⟩ := hw
    refine s_aug (a := yst y + cumN y i) (b := mlen y (1 + (i : Int))) rfl (ec_mlen (ev_var rfl) (ev_var rfl) (by omega)) fun H6 e6 => ⟨some (.int (1 + (i : Int))), ?_, e5.trans e6⟩
    show _ = [_, _, _, _, some (V.int (yst y + (cumN y i + mlen y ((i : Int) + 1)))), _]
    rw [← Int.add_assoc, Int.add_comm (i : Int) 1]
    rfl
  · obtain ⟨y5, rfl, e5⟩ := hw
    refine s_ret (v := dayV y m d) ?_ fun H6 e6 => q _ (e5.trans e6)
    refine ev_is (v := .int (dayN y m d)) ?_ (by unfold dayV; rw [if_pos hD])
    exact ev_op (ev_op (ev_op ev_c (ev_var rfl) rv_I0) (ev_var rfl) rv_I0) ev_c rv_I0
theorem ok_date_of (D : Dn K mg "date_of" s_date_of ["day"]) (c_month_length : C8.Cal P w K mg base 2 "month_length" (sp_month_length K) []) (z_divmod : mg "divmod" = none) (z_min : mg "min" = none) (g_FIRST_DAY : ∃ u, mg "FIRST_DAY" = some u ∧ RelV (.int (-719162)) u) (g__DAYS_OF_100_YEARS : ∃ u, mg "_DAYS_OF_100_YEARS" = some u ∧ RelV (.int (36524)) u) (g__DAYS_OF_400_YEARS : ∃ u, mg "_DAYS_OF_400_YEARS" = some u ∧ RelV (.int (146097)) u) (g__DAYS_OF_4_YEARS : ∃ u, mg "_DAYS_OF_4_YEARS" = some u ∧ RelV (.int (1461)) u) (g__DAYS_OF_YEAR : ∃ u, mg "_DAYS_OF_YEAR" = some u ∧ RelV (.int (365)) u) :
    C8.Cal P w K mg base 3 "date_of" (sp_date_of K) [] := by
  refine cal_of D sc_date_of (fun vs H Q E h => ?_) (fun f cdv A outer s H vs Q E hr h => ?_)
  · obtain ⟨_, rfl, _⟩ := h
    rfl
  refine ⟨_, (pss_cons (ps_asg (pe_callB call_divmod (by rfl) z_divmod (by decide +kernel) (pa_cons (pe_op op_sub (pv 0) (C8.pe_gc rfl g_FIRST_DAY)) (pa_cons (C8.pe_gc rfl g__DAYS_OF_400_YEARS) pa_nil))) (pg_tup rfl (pgs_cons (pg_name (i := 1) sc_date_of.nd rfl (.inl rfl)) (pgs_cons (pg_name (i := 2) sc_date_of.nd rfl (.inl rfl)) pgs_nil))))
    (pss_cons (ps_set (i := 3) sc_date_of.nd rfl (.inl rfl) (pe_callB (call_min2 rfl) (by rfl) z_min (by decide +kernel) (pa_cons (pe_op op_fdiv (pv 2) (C8.pe_gc rfl g__DAYS_OF_100_YEARS)) (pa_cons pe_int pa_nil))))
    (pss_cons (ps_aug (i := 2) sc_date_of.nd rfl (.inl rfl) (pe_op op_mul (pv 3) (C8.pe_gc rfl g__DAYS_OF_100_YEARS)) ip_sub)
    (pss_cons (ps_asg (pe_callB call_divmod (by rfl) z_divmod (by decide +kernel) (pa_cons (pv 2) (pa_cons (C8.pe_gc rfl g__DAYS_OF_4_YEARS) pa_nil))) (pg_tup rfl (pgs_cons (pg_name (i := 4) sc_date_of.nd rfl (.inl rfl)) (pgs_cons (pg_name (i := 2) sc_date_of.nd rfl (.inl rfl)) pgs_nil))))
    (pss_cons (ps_set (i := 5) sc_date_of.nd rfl (.inl rfl) (pe_callB (call_min2 rfl) (by rfl) z_min (by decide +kernel) (pa_cons (pe_op op_fdiv (pv 2) (C8.pe_gc rfl g__DAYS_OF_YEAR)) (pa_cons pe_int pa_nil))))
    (pss_cons (ps_aug (i := 2) sc_date_of.nd rfl (.inl rfl) (pe_op op_mul (pv 5) (C8.pe_gc rfl g__DAYS_OF_YEAR)) ip_sub)
    (pss_cons (ps_set (i := 6) sc_date_of.nd rfl (.inl rfl) (pe_op op_add (pe_op op_add (pe_op op_add (pe_op op_add (pe_op op_mul pe_int (pv 1)) (pe_op op_mul pe_int (pv 3))) (pe_op op_mul pe_int (pv 4))) (pv 5)) pe_int))
    (pss_cons (ps_set (i := 7) sc_date_of.nd rfl (.inl rfl) pe_int)
    (pss_cons (ps_while PassesOwn.never (pt_cmpR op_ge (pv 2) (C8.pe_c c_month_length hr (by decide) (by rfl) (pa_cons (pv 6) (pa_cons (pv 7) pa_nil))) (nomark _))
      (pss_cons (ps_aug (i := 2) sc_date_of.nd rfl (.inl rfl) (C8.pe_c c_month_length hr (by decide) (by rfl) (pa_cons (pv 6) (pa_cons (pv 7) pa_nil))) ip_sub)
    (pss_one (ps_aug (i := 7) sc_date_of.nd rfl (.inl rfl) pe_int ip_add))))
    (pss_one (ps_ret (pe_tup (pa_cons (pv 6) (pa_cons (pv 7) (pa_cons (pe_op op_add (pv 2) pe_int) pa_nil))))))))))))))), ?_⟩
  obtain ⟨d, rfl, hd, q⟩ := h
  refine q_asgG (eu_divmod (i := d - -719162) (j := 146097) (ev_op (ev_var rfl) ev_c rv_I0) ev_c ⟨by decide, by decide⟩) fun p H1 hp e1 h1 => gt2 (st_of h1) ?_
  refine q_asg (v := .int (if (3 : Int) < (d - -719162) % 146097 / 36524 then 3 else (d - -719162) % 146097 / 36524)) (ev_min2 (ev_op (ev_var rfl) ev_c (rv_I ⟨by decide, by decide⟩)) ev_c) fun H2 e2 => ?_
  generalize hc : (if (3 : Int) < (d - -719162) % 146097 / 36524 then (3 : Int) else (d - -719162) % 146097 / 36524) = c
  have c0 : 0 ≤ c ∧ c ≤ 3 := by rw [← hc]; split <;> omega
  refine q_aug (a := (d - -719162) % 146097) (b := c * 36524) rfl (ev_op (ev_var rfl) ev_c (rv_I (.inr ⟨by decide, by decide⟩))) fun H3 e3 => ?_
  refine q_asgG (eu_divmod (i := (d - -719162) % 146097 - c * 36524) (j := 1461) (ev_var rfl) ev_c ⟨by decide, by decide⟩) fun p2 H4 hp2 e4 h4 => gt2 (st_of h4) ?_
  generalize hf : ((d - -719162) % 146097 - c * 36524) / 1461 = f
  generalize hr2 : ((d - -719162) % 146097 - c * 36524) % 1461 = r2
  refine q_asg (v := .int (if (3 : Int) < r2 / 365 then 3 else r2 / 365)) (ev_min2 (ev_op (ev_var rfl) ev_c (rv_I ⟨by decide, by decide⟩)) ev_c) fun H5 e5 => ?_
  generalize hg : (if (3 : Int) < r2 / 365 then (3 : Int) else r2 / 365) = g
  have g0 : 0 ≤ g ∧ g ≤ 3 := by rw [← hg]; split <;> omega
  refine q_aug (a := r2) (b := g * 365) rfl (ev_op (ev_var rfl) ev_c (rv_I (.inr ⟨by decide, by decide⟩))) fun H6 e6 => ?_
  refine q_asg (v := .int (400 * ((d - -719162) / 146097) + 100 * c + 4 * f + g + 1)) (by walk_at "ev") fun H7 e7 => ?_
  have hp := parts (D := d - -719162) (c := (d - -719162) / 146097) (h := c) (f := f) (g := g) (r := r2 - g * 365) (by omega) (by omega) c0
    (by rw [← hf]; rw [← hc]; split <;> omega) g0 (by rw [← hg]; split <;> omega) (by rw [← hc] at *; split at hc <;> (rw [← hg]; split <;> omega))
  generalize hy : 400 * ((d - -719162) / 146097) + 100 * c + 4 * f + g + 1 = y at *
  generalize hr3 : r2 - g * 365 = r at *
  obtain ⟨p1, p2', p3, p4⟩ := hp
  have r0 : 0 ≤ r := by rw [← hr3, ← hg]; split <;> omega
  have y9 : y ≤ 9999 := by
    refine Int.not_lt.mp fun z => ?_
    have := yst_mono (show 10000 ≤ y from z)
    rw [show yst 10000 = 3652059 by decide] at this
    omega
  refine q_asg ev_c fun H8 e8 => ?_
  have x8 := ((((((e1.trans e2).trans e3).trans e4).trans e5).trans e6).trans e7).trans e8
  refine q_while (fun n σ H' => ∃ k : Nat, n = 12 - k ∧ k ≤ 11 ∧ cumN y k ≤ r ∧ σ = [some (.int d), some (.int ((d - -719162) / 146097)), some (.int (r - cumN y k)), some (.int c), some (.int f), some (.int g), some (.int y), some (.int ((k : Int) + 1))] ∧ Ex H H') 12
    ⟨0, rfl, by decide, r0, by show _ = [_, _, some (V.int (r - 0)), _, _, _, _, _]; rw [Int.sub_zero]; rfl, x8⟩ fun n σ H' hw => ?_
  obtain ⟨k, rfl, hk, hck, rfl, e9⟩ := hw
  refine ⟨decide (mlen y ((k : Int) + 1) ≤ r - cumN y k), et_test (ev_op (ev_var rfl) (ec_mlen (ev_var rfl) (ev_var rfl) (by omega)) rv_I0), fun hb H1' e1' => ?_, fun hb H1' e1' => ?_⟩
  · have hb' := of_decide_eq_true hb
    have hc1 : cumN y (k + 1) ≤ r := by show cumN y k + mlen y ((k : Int) + 1) ≤ r; omega
    have hk1 : k + 1 ≤ 11 := by
      rcases Nat.lt_or_ge k 11 with z | z
      · omega
      · have ek : k = 11 := by omega
        subst ek
        have z2 : cumN y 12 ≤ r := hc1
        omega
    refine ⟨_, fun σ2 H2' hN => hN, ?_⟩
    refine q_aug (a := r - cumN y k) (b := mlen y ((k : Int) + 1)) rfl (ec_mlen (ev_var rfl) (ev_var rfl) (by omega)) fun H2' e2' => ?_
    refine s_aug (a := (k : Int) + 1) (b := 1) rfl ev_c fun H3' e3' => ⟨12 - (k + 1), by omega, k + 1, rfl, hk1, hc1, ?_, ((e9.trans e1').trans e2').trans e3'⟩
    show _ = [_, _, some (V.int (r - (cumN y k + mlen y ((k : Int) + 1)))), _, _, _, _, some (V.int (((k + 1 : Nat) : Int) + 1))]
    rw [← Int.sub_sub, Int.natCast_add]
    rfl
  · have hb' := of_decide_eq_false hb
    have hD : isD y ((k : Int) + 1) (r - cumN y k + 1) := ⟨⟨p3, y9⟩, ⟨by omega, by omega⟩, by omega, by omega⟩
    have he : dayN y ((k : Int) + 1) (r - cumN y k + 1) = d := by
      unfold dayN
      rw [show ((k : Int) + 1 - 1).toNat = k by omega]
      omega
    refine s_retU (xs := tri (dt d)) ?_ fun p H2' hp' e2' h2' => q p H2' ?_ ((e9.trans e1').trans e2') h2'
    · rw [dt_eq hD he]
      exact eu_tup (ea_cons (ev_var rfl) (ea_cons (ev_var rfl) (ea_cons (ev_op (ev_var rfl) ev_c rv_I0) ea_nil))) (by show 3 ≤ 100000; decide)
    · exact fresh_back (e9.trans e1') hp'
end

/-! ### what the law reckons -/
def isDay : V → Bool
  | .int i => decide (-719162 ≤ i) && decide (i ≤ 2932896)
  | _ => false
def sp_is_integer (K : PySem.W.Frag) : Sp := fun vs H Q _ => ∃ x : V, vs = [x] ∧ Pl x ∧ ∀ H', Ex H H' → Q (.bl (isInt x)) H'
def sp__law_is_integer (K : PySem.W.Frag) : Sp := fun vs H Q _ => ∃ x : V, vs = [x] ∧ Pl x ∧ ∀ H', Ex H H' → Q (.bl (isInt x)) H'
def sp_is_day (K : PySem.W.Frag) : Sp := fun vs H Q _ => ∃ x : V, vs = [x] ∧ Pl x ∧ ∀ H', Ex H H' → Q (.bl (isDay x)) H'
def sp__law_length (K : PySem.W.Frag) : Sp := fun vs H Q _ => ∃ y m : Int, vs = [.int y, .int m] ∧ (1 ≤ m ∧ m ≤ 12) ∧ ∀ H', Ex H H' → Q (.int (mlen y m)) H'
def nextI (y m d : Int) : Int × Int × Int := if d < mlen y m then (y, m, d + 1) else if m < 12 then (y, m + 1, 1) else (y + 1, 1, 1)
def sp__law_next (K : PySem.W.Frag) : Sp := fun vs H Q _ => ∃ (a : Addr) (t : Int × Int × Int), vs = [.ref a] ∧ SqT K H a (tri t) ∧ (1 ≤ t.2.1 ∧ t.2.1 ≤ 12) ∧ ∀ p H', H p = none → Ex H H' → H' p = some (.tup (tri (nextI t.1 t.2.1 t.2.2))) → Q (.ref p) H'
def sp__law_is_date (K : PySem.W.Frag) : Sp := fun vs H Q _ => ∃ (a : Addr) (t : Int × Int × Int), vs = [.ref a] ∧ H a = some (.tup (tri t)) ∧ ∀ H', Ex H H' → Q (.bl (decide (isD t.1 t.2.1 t.2.2))) H'
def sp_law (K : PySem.W.Frag) : Sp := fun vs H Q _ => ∃ (a : Addr) (ns : List Int), vs = [.ref a] ∧ SqL K H a (ns.map V.int) ∧ ns.length ≤ 63 ∧ ∀ H', Q (.bl true) H'
theorem sp_law_of {K : PySem.W.Frag} {H : Hp} {a : Addr} {ns : List Int} (hl : ns.length ≤ 63) (hS : SqL K H a (ns.map V.int)) : sp_law K [.ref a] H (fun v _ => v = .bl true) fun _ _ _ => False :=
  ⟨a, ns, rfl, hS, hl, fun _ => rfl⟩
theorem next_ok {y m d : Int} (h : isD y m d) (hl : dayN y m d < 2932896) : isD (nextI y m d).1 (nextI y m d).2.1 (nextI y m d).2.2 ∧ dayN (nextI y m d).1 (nextI y m d).2.1 (nextI y m d).2.2 = dayN y m d + 1 := by
  obtain ⟨⟨y1, y2⟩, ⟨m1, m2⟩, d1, d2⟩ := h
  unfold nextI
  split
  · exact ⟨⟨⟨y1, y2⟩, ⟨m1, m2⟩, by show 1 ≤ d + 1; omega, by show d + 1 ≤ mlen y m; omega⟩, by unfold dayN; show -719162 + (yst y + cumN y (m - 1).toNat) + (d + 1) - 1 = _; omega⟩
  have ed : d = mlen y m := by omega
  have ec : cumN y m.toNat = cumN y (m - 1).toNat + mlen y m := by
    have e : m.toNat = (m - 1).toNat + 1 := by omega
    rw [e]
    show cumN y (m - 1).toNat + mlen y (((m - 1).toNat : Int) + 1) = _
    rw [show (((m - 1).toNat : Int) + 1) = m by omega]
  split
  · rename_i hm
    refine ⟨⟨⟨y1, y2⟩, ⟨by show 1 ≤ m + 1; omega, by show m + 1 ≤ 12; omega⟩, by show (1 : Int) ≤ 1; decide, ?_⟩, ?_⟩
    · have := mlen_in (y := y) (m := m + 1) (by omega)
      show 1 ≤ mlen y (m + 1)
      omega
    · unfold dayN
      show -719162 + (yst y + cumN y (m + 1 - 1).toNat) + 1 - 1 = _
      rw [show (m + 1 - 1).toNat = m.toNat by omega, ec]
      omega
  · have em : m = 12 := by omega
    subst em
    have hy : y ≠ 9999 := by
      intro e
      subst e
      subst ed
      exact absurd hl (by decide)
    refine ⟨⟨⟨by show 1 ≤ y + 1; omega, by show y + 1 ≤ 9999; omega⟩, ⟨by show (1 : Int) ≤ 1; decide, by show (1 : Int) ≤ 12; decide⟩, by show (1 : Int) ≤ 1; decide, ?_⟩, ?_⟩
    · have := mlen_in (y := y + 1) (m := 1) (by omega)
      show 1 ≤ mlen (y + 1) 1
      omega
    · unfold dayN
      show -719162 + (yst (y + 1) + 0) + 1 - 1 = _
      rw [yst_succ]
      have ec' : cumN y 12 = cumN y (12 - 1 : Int).toNat + mlen y 12 := ec
      omega
section
variable {P : Program} {w : World} {K : PySem.W.Frag} {mg : Str → Option Value} {base : Heap}
section
variable {σ : L2.St} {H : Hp} {ta tb tc : TE} {E : XK} {y m d : Int} {x : V}
theorem ec_isint0 (ha : Ev ta σ H x) (h : Pl x) : Ev (tCall (sp_is_integer K) [] E (tCons ta tNil)) σ H (.bl (isInt x)) := ev_call (ea_cons ha ea_nil) fun H1 e Q q E => ⟨x, rfl, h, q⟩
theorem ec_isint (ha : Ev ta σ H x) (h : Pl x) : Ev (tCall (sp__law_is_integer K) [] E (tCons ta tNil)) σ H (.bl (isInt x)) := ev_call (ea_cons ha ea_nil) fun H1 e Q q E => ⟨x, rfl, h, q⟩
theorem ec_isday (ha : Ev ta σ H x) (h : Pl x) : Ev (tCall (sp_is_day K) [] E (tCons ta tNil)) σ H (.bl (isDay x)) := ev_call (ea_cons ha ea_nil) fun H1 e Q q E => ⟨x, rfl, h, q⟩
theorem ec_llen (ha : Ev ta σ H (.int y)) (hb : Ev tb σ H (.int m)) (h : 1 ≤ m ∧ m ≤ 12) : Ev (tCall (sp__law_length K) [] E (tCons ta (tCons tb tNil))) σ H (.int (mlen y m)) := ev_call (ea_cons ha (ea_cons hb ea_nil)) fun H1 e Q q E => ⟨y, m, rfl, h, q⟩
theorem ec_next {a : Addr} {t : Int × Int × Int} (ha : Ev ta σ H (.ref a)) (h : SqT K H a (tri t)) (hm : 1 ≤ t.2.1 ∧ t.2.1 ≤ 12) : EvU (tCall (sp__law_next K) [] E (tCons ta tNil)) σ H (tri (nextI t.1 t.2.1 t.2.2)) := eu_call (ea_cons ha ea_nil) fun H1 e Q q E => ⟨a, t, rfl, ex_t e h, hm, q⟩
theorem ec_isdate {a : Addr} {t : Int × Int × Int} (ha : Ev ta σ H (.ref a)) (h : H a = some (.tup (tri t))) : Ev (tCall (sp__law_is_date K) [] E (tCons ta tNil)) σ H (.bl (decide (isD t.1 t.2.1 t.2.2))) := ev_call (ea_cons ha ea_nil) fun H1 e Q q E => ⟨a, t, rfl, e _ _ h, q⟩
/-- of a tuple that is made on the way -/
theorem ec_isdateN {t : Int × Int × Int} (ha : EvU ta σ H (tri t)) : Ev (tCall (sp__law_is_date K) [] E (tCons ta tNil)) σ H (.bl (decide (isD t.1 t.2.1 t.2.2))) := fun H1 e Q q =>
  ha H1 e _ fun p H2 _ e2 h2 => ⟨p, t, rfl, h2, fun H' e' => q H' (e2.trans e')⟩
end
theorem ok_is_integer (D : Dn K mg "is_integer" s_is_integer ["value"]) (z_bool : mg "bool" = none) (z_int : mg "int" = none) (z_isinstance : mg "isinstance" = none) :
    C8.Cal P w K mg base 1 "is_integer" (sp_is_integer K) [] := by
  refine cal_of D sc_is_integer (fun vs H Q E h => ?_) (fun f cdv A outer s H vs Q E hr h => ?_)
  · obtain ⟨_, rfl, _⟩ := h
    rfl
  refine ⟨_, (pss_one (ps_ret (pe_and (pe_callB call_isi (by rfl) z_isinstance (by decide +kernel) (pa_cons (pv 0) (pa_cons (pe_bltn (v := .ty "int") (u := .type "int") rfl z_int (by decide +kernel) rfl) pa_nil))) (pe_one (pe_not (pe_callB call_isi (by rfl) z_isinstance (by decide +kernel) (pa_cons (pv 0) (pa_cons (pe_bltn (v := .ty "bool") (u := .type "bool") rfl z_bool (by decide +kernel) rfl) pa_nil)))))))), ?_⟩
  obtain ⟨x, rfl, hx, q⟩ := h
  exact s_ret (ev_isInt (ev_var rfl) (ev_var rfl) hx) fun H2 e2 => q _ e2
theorem ok__law_is_integer (D : Dn K mg "_law_is_integer" s__law_is_integer ["value"]) (z_bool : mg "bool" = none) (z_int : mg "int" = none) (z_isinstance : mg "isinstance" = none) :
    C8.Cal P w K mg base 1 "_law_is_integer" (sp__law_is_integer K) [] := by
  refine cal_of D sc__law_is_integer (fun vs H Q E h => ?_) (fun f cdv A outer s H vs Q E hr h => ?_)
  · obtain ⟨_, rfl, _⟩ := h
    rfl
  refine ⟨_, (pss_one (ps_ret (pe_and (pe_callB call_isi (by rfl) z_isinstance (by decide +kernel) (pa_cons (pv 0) (pa_cons (pe_bltn (v := .ty "int") (u := .type "int") rfl z_int (by decide +kernel) rfl) pa_nil))) (pe_one (pe_not (pe_callB call_isi (by rfl) z_isinstance (by decide +kernel) (pa_cons (pv 0) (pa_cons (pe_bltn (v := .ty "bool") (u := .type "bool") rfl z_bool (by decide +kernel) rfl) pa_nil)))))))), ?_⟩
  obtain ⟨x, rfl, hx, q⟩ := h
  exact s_ret (ev_isInt (ev_var rfl) (ev_var rfl) hx) fun H2 e2 => q _ e2
theorem ok_is_day (D : Dn K mg "is_day" s_is_day ["value"]) (c_is_integer : C8.Cal P w K mg base 1 "is_integer" (sp_is_integer K) []) (g_FIRST_DAY : ∃ u, mg "FIRST_DAY" = some u ∧ RelV (.int (-719162)) u) (g_LAST_DAY : ∃ u, mg "LAST_DAY" = some u ∧ RelV (.int (2932896)) u) :
    C8.Cal P w K mg base 2 "is_day" (sp_is_day K) [] := by
  refine cal_of D sc_is_day (fun vs H Q E h => ?_) (fun f cdv A outer s H vs Q E hr h => ?_)
  · obtain ⟨_, rfl, _⟩ := h
    rfl
  refine ⟨_, (pss_one (ps_ret (pe_and (C8.pe_c c_is_integer hr (by decide) (by rfl) (pa_cons (pv 0) pa_nil)) (pe_one (pe_chain op_le op_le (C8.pe_gc rfl g_FIRST_DAY) (pv 0) (C8.pe_gc rfl g_LAST_DAY)))))), ?_⟩
  obtain ⟨x, rfl, hx, q⟩ := h
  refine s_ret (v := .bl (isDay x)) ?_ fun H2 e2 => q _ e2
  cases hx with
  | int i => exact ev_is (ev_andV (ec_isint0 (ev_var rfl) (.int i)) fun _ => ev_chain ev_c (ev_var rfl) rv_I0 (fun _ => ev_c) (fun _ => rv_I0)) rfl
  | non => exact ev_is (ev_andV (b := true) (ec_isint0 (ev_var rfl) .non) fun z => nomatch z) rfl
  | bl b => exact ev_is (ev_andV (b := true) (ec_isint0 (ev_var rfl) (.bl b)) fun z => nomatch z) rfl
  | str s => exact ev_is (ev_andV (b := true) (ec_isint0 (ev_var rfl) (.str s)) fun z => nomatch z) rfl
theorem ok__law_length (D : Dn K mg "_law_length" s__law_length ["year", "month"]) (z_int : mg "int" = none) :
    C8.Cal P w K mg base 1 "_law_length" (sp__law_length K) [] := by
  refine cal_of D sc__law_length (fun vs H Q E h => ?_) (fun f cdv A outer s H vs Q E hr h => ?_)
  · obtain ⟨_, _, rfl, _⟩ := h
    rfl
  refine ⟨_, (pss_cons (ps_if (pt_cmpR op_in_seq (pv 1) (pe_tup (pa_cons pe_int (pa_cons pe_int (pa_cons pe_int (pa_cons pe_int pa_nil))))) (by with_unfolding_all rfl))
      (pss_one (ps_ret pe_int))
      pss_nil)
    (pss_cons (ps_if (pt_cmpR op_ne (pv 1) pe_int (nomark _))
      (pss_one (ps_ret pe_int))
      pss_nil)
    (pss_cons (ps_if (PW.pt (pw_or (pt_cmpR op_eq (pe_op op_mod (pe_callTy call_int1 (by rfl) z_int (by decide +kernel) (pa_cons (pv 0) pa_nil)) pe_int) pe_int (nomark _)) (pw_or1 (PW.pt (pw_and (pt_cmpR op_eq (pe_op op_mod (pe_callTy call_int1 (by rfl) z_int (by decide +kernel) (pa_cons (pv 0) pa_nil)) pe_int) pe_int (nomark _)) (pw_and1 (pt_cmpR op_ne (pe_op op_mod (pe_callTy call_int1 (by rfl) z_int (by decide +kernel) (pa_cons (pv 0) pa_nil)) pe_int) pe_int (nomark _))))))))
      (pss_one (ps_ret pe_int))
      pss_nil)
    (pss_one (ps_ret pe_int))))), ?_⟩
  obtain ⟨y, m, rfl, hm, q⟩ := h
  refine q_when (b := inV (.int m) [.int 4, .int 6, .int 9, .int 11]) (et_test (ev_inU (ev_var rfl) (eu_tup (ea_cons ev_c (ea_cons ev_c (ea_cons ev_c (ea_cons ev_c ea_nil)))) (by show 4 ≤ 100000; decide)) rfl rfl)) (fun hb H1 e1 => s_ret (v := .int (mlen y m)) ?_ fun H2 e2 => q _ (e1.trans e2)) fun hb H1 e1 => ?_
  · refine ev_is ev_c (congrArg V.int ?_)
    unfold mlen
    rcases month_cases hm with rfl | rfl | rfl | rfl | rfl | rfl | rfl | rfl | rfl | rfl | rfl | rfl <;> first | rfl | exact absurd hb (by decide)
  refine q_when (b := !decide (V.int m = V.int 2)) (by walk_at "et") (fun hc H2 e2 => s_ret (v := .int (mlen y m)) ?_ fun H3 e3 => q _ ((e1.trans e2).trans e3)) fun hc H2 e2 => ?_
  · refine ev_is ev_c (congrArg V.int ?_)
    unfold mlen
    rcases month_cases hm with rfl | rfl | rfl | rfl | rfl | rfl | rfl | rfl | rfl | rfl | rfl | rfl <;> first | rfl | exact absurd hb (by decide) | exact absurd hc (by decide)
  have em : m = 2 := by
    rw [Bool.not_eq_false', decide_eq_true_eq] at hc
    exact V.int.inj hc
  subst em
  refine q_when (b := decide (V.int (y % 400) = V.int 0) || (decide (V.int (y % 4) = V.int 0) && !decide (V.int (y % 100) = V.int 0))) (by walk_at "et") (fun hd H3 e3 => s_ret (v := .int (mlen y 2)) ?_ fun H4 e4 => q _ (((e1.trans e2).trans e3).trans e4)) fun hd H3 e3 => s_ret (v := .int (mlen y 2)) ?_ fun H4 e4 => q _ (((e1.trans e2).trans e3).trans e4)
  · refine ev_is ev_c (congrArg V.int ?_)
    unfold mlen
    rw [if_pos]
    refine ⟨rfl, (leap_iff y).mpr ?_⟩
    simp only [V.int.injEq, Bool.or_eq_true, Bool.and_eq_true, decide_eq_true_eq, Bool.not_eq_true', decide_eq_false_iff_not] at hd
    omega
  · refine ev_is ev_c (congrArg V.int ?_)
    unfold mlen
    rw [if_neg]
    · rfl
    intro z
    have z2 := (leap_iff y).mp z.2
    simp only [V.int.injEq, Bool.or_eq_false_iff, Bool.and_eq_false_iff, decide_eq_false_iff_not, Bool.not_eq_false', decide_eq_true_eq] at hd
    omega
theorem ok__law_next (D : Dn K mg "_law_next" s__law_next ["date"]) (c__law_length : C8.Cal P w K mg base 1 "_law_length" (sp__law_length K) []) :
    C8.Cal P w K mg base 2 "_law_next" (sp__law_next K) [] := by
  refine cal_of D sc__law_next (fun vs H Q E h => ?_) (fun f cdv A outer s H vs Q E hr h => ?_)
  · obtain ⟨_, _, rfl, _⟩ := h
    rfl
  refine ⟨_, (pss_cons (ps_asg (pv 0) (pg_tup rfl (pgs_cons (pg_name (i := 1) sc__law_next.nd rfl (.inl rfl)) (pgs_cons (pg_name (i := 2) sc__law_next.nd rfl (.inl rfl)) (pgs_cons (pg_name (i := 3) sc__law_next.nd rfl (.inl rfl)) pgs_nil)))))
    (pss_cons (ps_if (pt_cmpR op_lt (pv 3) (C8.pe_c c__law_length hr (by decide) (by rfl) (pa_cons (pv 1) (pa_cons (pv 2) pa_nil))) (nomark _))
      (pss_one (ps_ret (pe_tup (pa_cons (pv 1) (pa_cons (pv 2) (pa_cons (pe_op op_add (pv 3) pe_int) pa_nil))))))
      pss_nil)
    (pss_cons (ps_if (pt_cmpR op_lt (pv 2) pe_int (nomark _))
      (pss_one (ps_ret (pe_tup (pa_cons (pv 1) (pa_cons (pe_op op_add (pv 2) pe_int) (pa_cons pe_int pa_nil))))))
      pss_nil)
    (pss_one (ps_ret (pe_tup (pa_cons (pe_op op_add (pv 1) pe_int) (pa_cons pe_int (pa_cons pe_int pa_nil))))))))), ?_⟩
  obtain ⟨a, ⟨y, m, d⟩, rfl, hS, hm, q⟩ := h
  refine q_asgV (ev_var rfl) fun H1 e1 => gt3 (ex_t e1 hS) ?_
  refine q_when (b := decide (d < mlen y m)) (et_test (ev_op (ev_var rfl) (ec_llen (ev_var rfl) (ev_var rfl) hm) rv_I0)) (fun hb H2 e2 => s_retU (xs := tri (nextI y m d)) ?_ fun p H3 hp e3 h3 => q p H3 (fresh_back (e1.trans e2) hp) ((e1.trans e2).trans e3) h3) fun hb H2 e2 => ?_
  · unfold nextI
    rw [if_pos (of_decide_eq_true hb)]
    exact eu_tup (ea_cons (ev_var rfl) (ea_cons (ev_var rfl) (ea_cons (ev_op (ev_var rfl) ev_c rv_I0) ea_nil))) (by show 3 ≤ 100000; decide)
  have nb := of_decide_eq_false hb
  refine q_when (b := decide (m < 12)) (by walk_at "et") (fun hb H3 e3 => s_retU (xs := tri (nextI y m d)) ?_ fun p H4 hp e4 h4 => q p H4 (fresh_back ((e1.trans e2).trans e3) hp) (((e1.trans e2).trans e3).trans e4) h4) fun hb H3 e3 => s_retU (xs := tri (nextI y m d)) ?_ fun p H4 hp e4 h4 => q p H4 (fresh_back ((e1.trans e2).trans e3) hp) (((e1.trans e2).trans e3).trans e4) h4
  · unfold nextI
    rw [if_neg nb, if_pos (of_decide_eq_true hb)]
    exact eu_tup (ea_cons (ev_var rfl) (ea_cons (ev_op (ev_var rfl) ev_c rv_I0) (ea_cons ev_c ea_nil))) (by show 3 ≤ 100000; decide)
  · unfold nextI
    rw [if_neg nb, if_neg (of_decide_eq_false hb)]
    exact eu_tup (ea_cons (ev_op (ev_var rfl) ev_c rv_I0) (ea_cons ev_c (ea_cons ev_c ea_nil))) (by show 3 ≤ 100000; decide)
theorem ok__law_is_date (D : Dn K mg "_law_is_date" s__law_is_date ["date"]) (c__law_is_integer : C8.Cal P w K mg base 1 "_law_is_integer" (sp__law_is_integer K) []) (c__law_length : C8.Cal P w K mg base 1 "_law_length" (sp__law_length K) []) (z_isinstance : mg "isinstance" = none) (z_len : mg "len" = none) (z_tuple : mg "tuple" = none) :
    C8.Cal P w K mg base 2 "_law_is_date" (sp__law_is_date K) [] := by
  refine cal_of D sc__law_is_date (fun vs H Q E h => ?_) (fun f cdv A outer s H vs Q E hr h => ?_)
  · obtain ⟨_, _, rfl, _⟩ := h
    rfl
  refine ⟨_, (pss_cons (ps_if (PW.pt (pw_or (pt_not (pt_val (pe_callB call_isi (by rfl) z_isinstance (by decide +kernel) (pa_cons (pv 0) (pa_cons (pe_bltn (v := .ty "tuple") (u := .type "tuple") rfl z_tuple (by decide +kernel) rfl) pa_nil))))) (pw_or1 (pt_cmpR op_ne (pe_callB call_len_seq (by rfl) z_len PySem.boot_len (pa_cons (pv 0) pa_nil)) pe_int (nomark _)))))
      (pss_one (ps_ret pe_bl))
      pss_nil)
    (pss_cons (ps_for PassesOwn.never rfl (pi_tup (pv 0)) (pg_name (i := 1) sc__law_is_date.nd rfl (.inl rfl))
      (pss_one (ps_if (pt_not (pt_val (C8.pe_c c__law_is_integer hr (by decide) (by rfl) (pa_cons (pv 1) pa_nil))))
      (pss_one (ps_ret pe_bl))
      pss_nil)))
    (pss_cons (ps_if (PW.pt (pw_or (pt_not (pt_chain op_le op_le pe_int (pe_ix ix_tup (pv 0) pe_int (fun _ _ => rfl)) pe_int)) (pw_or1 (pt_not (pt_chain op_le op_le pe_int (pe_ix ix_tup (pv 0) pe_int (fun _ _ => rfl)) pe_int)))))
      (pss_one (ps_ret pe_bl))
      pss_nil)
    (pss_one (ps_ret (pe_chain op_le op_le pe_int (pe_ix ix_tup (pv 0) pe_int (fun _ _ => rfl)) (C8.pe_c c__law_length hr (by decide) (by rfl) (pa_cons (pe_ix ix_tup (pv 0) pe_int (fun _ _ => rfl)) (pa_cons (pe_ix ix_tup (pv 0) pe_int (fun _ _ => rfl)) pa_nil))))))))), ?_⟩
  obtain ⟨a, ⟨y, m, d⟩, rfl, hT, q⟩ := h
  have at0 : atI (tri (y, m, d)) 0 = some (.int y) := atI_nat (j := 0) rfl
  have at1 : atI (tri (y, m, d)) 1 = some (.int m) := atI_nat (j := 1) rfl
  have at2 : atI (tri (y, m, d)) 2 = some (.int d) := atI_nat (j := 2) rfl
  refine q_when (b := (!true) || (!decide (V.int 3 = V.int 3))) (et_or (et_not (et_B (ev_isi' (T := "tuple") (ev_var rfl) (tx_tup hT) (by decide +kernel)))) fun _ => et_test (ev_op (ev_lenT (ev_var rfl) (st_of hT)) ev_c (rv_ne rfl))) (fun hb => absurd hb (by decide)) fun _ H1 e1 => ?_
  refine q_forT (ev_var rfl) (st_of (e1 _ _ hT)) (fun i σ H' => ∃ y1, σ = [some (.ref a), y1] ∧ Ex H H') (fun H2 e2 => ⟨none, rfl, e1.trans e2⟩) (fun i σ H2 _ hw => ?_) (fun i x σ H2 hx hw => ?_) (fun σ H2 hw => ?_)
  · obtain ⟨y1, rfl, e2⟩ := hw
    exact st_of (e2 _ _ hT)
  · obtain ⟨y1, rfl, e2⟩ := hw
    have hxi : ∃ j : Int, x = .int j := by
      match i, hx with
      | 0, hx => exact ⟨_, (Option.some.inj hx).symm⟩
      | 1, hx => exact ⟨_, (Option.some.inj hx).symm⟩
      | 2, hx => exact ⟨_, (Option.some.inj hx).symm⟩
    obtain ⟨j, rfl⟩ := hxi
    refine s_when (b := !true) (et_not (et_B (ec_isint (ev_var rfl) (.int j)))) (fun hb => nomatch hb) fun _ H3 e3 => ⟨_, rfl, e2.trans e3⟩
  · obtain ⟨y1, rfl, e2⟩ := hw
    have hT2 := e2 _ _ hT
    refine q_when (b := !(decide (1 ≤ y) && decide (y ≤ 9999)) || !(decide (1 ≤ m) && decide (m ≤ 12))) ?_ (fun hb H3 e3 => s_ret (v := .bl (decide (isD y m d))) ?_ fun H4 e4 => q _ ((e2.trans e3).trans e4)) fun hb H3 e3 => s_ret (v := .bl (decide (isD y m d))) ?_ fun H4 e4 => q _ ((e2.trans e3).trans e4)
    · exact et_or (et_not (et_test (ev_chain ev_c (ev_op (ev_var rfl) ev_c (rv_ixT (st_of hT2) at0)) rv_I0 (fun _ => ev_c) (fun _ => rv_I0)))) fun _ => et_not (et_test (ev_chain ev_c (ev_op (ev_var rfl) ev_c (rv_ixT (st_of hT2) at1)) rv_I0 (fun _ => ev_c) (fun _ => rv_I0)))
    · refine ev_is ev_c (congrArg V.bl (decide_eq_false ?_).symm)
      rintro ⟨⟨a1, a2⟩, ⟨a3, a4⟩, _⟩
      rw [decide_eq_true a1, decide_eq_true a2, decide_eq_true a3, decide_eq_true a4] at hb
      cases hb
    · rw [Bool.or_eq_false_iff, Bool.not_eq_false', Bool.not_eq_false', Bool.and_eq_true, Bool.and_eq_true, decide_eq_true_eq, decide_eq_true_eq, decide_eq_true_eq, decide_eq_true_eq] at hb
      have hT3 := e3 _ _ hT2
      refine ev_is (ev_chain ev_c (ev_op (ev_var rfl) ev_c (rv_ixT (st_of hT3) at2)) rv_I0 (fun _ => ec_llen (ev_op (ev_var rfl) ev_c (rv_ixT (st_of hT3) at0)) (ev_op (ev_var rfl) ev_c (rv_ixT (st_of hT3) at1)) hb.2) (fun _ => rv_I0)) (congrArg V.bl ?_)
      rw [Bool.eq_iff_iff, Bool.and_eq_true, decide_eq_true_eq, decide_eq_true_eq, decide_eq_true_eq]
      exact ⟨fun z => ⟨hb.1, hb.2, z⟩, fun z => z.2.2⟩
theorem neU {σ : L2.St} {H : Hp} {ta tb : TE} {s t : Int × Int × Int} (ha : EvU ta σ H (tri s)) (hb : EvU tb σ H (tri t)) : Ev (tOp (rNeD K) ta tb) σ H (.bl (!decide (s = t))) := by
  refine ev_is (ev_opUU ha hb fun p q H1 hp hq _ => rv_neT (ns := [s.1, s.2.1, s.2.2]) (ms := [t.1, t.2.1, t.2.2]) (st_of hp) (st_of hq) rfl rfl) ?_
  refine congrArg (fun b : Bool => V.bl (!b)) ?_
  rw [Bool.eq_iff_iff, decide_eq_true_eq, decide_eq_true_eq]
  simp only [List.cons.injEq, Prod.ext_iff, and_true]
theorem neR {σ : L2.St} {H : Hp} {ta tb : TE} {s t : Int × Int × Int} {p : Addr} (ha : Ev ta σ H (.ref p)) (hp : SqT K H p (tri s)) (hb : EvU tb σ H (tri t)) : Ev (tOp (rNeD K) ta tb) σ H (.bl (!decide (s = t))) := by
  refine ev_is (ev_opU ha hb fun q H1 hq e => rv_neT (ns := [s.1, s.2.1, s.2.2]) (ms := [t.1, t.2.1, t.2.2]) (ex_t e hp) (st_of hq) rfl rfl) ?_
  refine congrArg (fun b : Bool => V.bl (!b)) ?_
  rw [Bool.eq_iff_iff, decide_eq_true_eq, decide_eq_true_eq]
  simp only [List.cons.injEq, Prod.ext_iff, and_true]
theorem tri3 {σ : L2.St} {H : Hp} {ta tb tc : TE} {t : Int × Int × Int} (ha : Ev ta σ H (.int t.1)) (hb : Ev tb σ H (.int t.2.1)) (hc : Ev tc σ H (.int t.2.2)) : EvU (tTup (tCons ta (tCons tb (tCons tc tNil)))) σ H (tri t) :=
  eu_tup (ea_cons ha (ea_cons hb (ea_cons hc ea_nil))) (by show 3 ≤ 100000; decide)
theorem ok_law {f : Addr} {fd : FuncData} (D : C8.Def K mg "law" s_law f fd) (c__law_is_date : C8.Cal P w K mg base 2 "_law_is_date" (sp__law_is_date K) []) (c__law_is_integer : C8.Cal P w K mg base 1 "_law_is_integer" (sp__law_is_integer K) []) (c__law_length : C8.Cal P w K mg base 1 "_law_length" (sp__law_length K) []) (c__law_next : C8.Cal P w K mg base 2 "_law_next" (sp__law_next K) []) (c__law_numbers : C8.Cal P w K mg base 1 "_law_numbers" (sp__law_numbers K) []) (c_date_of : C8.Cal P w K mg base 3 "date_of" (sp_date_of K) []) (c_day_of : C8.Cal P w K mg base 3 "day_of" (sp_day_of K) []) (c_is_day : C8.Cal P w K mg base 2 "is_day" (sp_is_day K) []) (c_month_length : C8.Cal P w K mg base 2 "month_length" (sp_month_length K) []) (z_int : mg "int" = none) (z_max : mg "max" = none) (z_min : mg "min" = none) (g_FIRST_DAY : ∃ u, mg "FIRST_DAY" = some u ∧ RelV (.int (-719162)) u) (g_LAST_DAY : ∃ u, mg "LAST_DAY" = some u ∧ RelV (.int (2932896)) u) :
    FnOk P w K mg base C8.CX0 4 f fd ["script"] (sp_law K) := by
  refine C8.fn0 D.fn sc_law (fun vs H Q E h => ?_) (fun cdv A outer s H vs Q E hr h => ?_)
  · obtain ⟨_, _, rfl, _⟩ := h
    rfl
  refine ⟨_, (pss_cons (ps_set (i := 1) sc_law.nd rfl (.inl rfl) (C8.pe_c c__law_numbers hr (by decide) (by rfl) (pa_cons (pv 0) (pa_cons pe_int pa_nil))))
    (pss_cons (ps_if (PW.pt (pw_or (pt_cmpR op_ne (C8.pe_gc rfl g_FIRST_DAY) (pe_un un_neg pe_int) (nomark _)) (pw_or (pt_cmpR op_ne (C8.pe_gc rfl g_LAST_DAY) pe_int (nomark _)) (pw_or (pt_cmpR (op_neD (hu64 hr)) (C8.pe_c c_date_of hr (by decide) (by rfl) (pa_cons pe_int pa_nil)) (pe_tup (pa_cons pe_int (pa_cons pe_int (pa_cons pe_int pa_nil)))) (nomark _)) (pw_or1 (pt_cmpR (op_neD (hu64 hr)) (C8.pe_c c_date_of hr (by decide) (by rfl) (pa_cons (C8.pe_gc rfl g_FIRST_DAY) pa_nil)) (pe_tup (pa_cons pe_int (pa_cons pe_int (pa_cons pe_int pa_nil)))) (nomark _)))))))
      (pss_one (ps_ret pe_bl))
      pss_nil)
    (pss_cons (ps_set (i := 2) sc_law.nd rfl (.inl rfl) (pe_op op_sub (pe_op op_mod (pe_callTy call_int1 (by rfl) z_int (by decide +kernel) (pa_cons (pe_ix ix_list (pv 1) pe_int (fun _ _ => rfl)) pa_nil)) pe_int) pe_int))
    (Evl.pss_cut (ps_if (pt_cmpR op_eq (pe_op op_mod (pe_callTy call_int1 (by rfl) z_int (by decide +kernel) (pa_cons (pe_ix ix_list (pv 1) pe_int (fun _ _ => rfl)) pa_nil)) pe_int) pe_int (nomark _))
      (pss_cons (ps_set (i := 3) sc_law.nd rfl (.inl rfl) (C8.pe_c c_day_of hr (by decide) (by rfl) (pa_cons (pe_op op_add pe_int (pe_op op_mod (pe_callTy call_int1 (by rfl) z_int (by decide +kernel) (pa_cons (pe_ix ix_list (pv 1) pe_int (fun _ _ => rfl)) pa_nil)) pe_int)) (pa_cons (pe_ix ix_list (pe_lst (pa_cons pe_int (pa_cons pe_int (pa_cons pe_int (pa_cons pe_int (pa_cons pe_int (pa_cons pe_int pa_nil))))))) (pe_op op_mod (pe_op op_fdiv (pe_callTy call_int1 (by rfl) z_int (by decide +kernel) (pa_cons (pe_ix ix_list (pv 1) pe_int (fun _ _ => rfl)) pa_nil)) pe_int) pe_int) (fun _ _ => rfl)) (pa_cons pe_int pa_nil)))))
    (pss_cons (ps_if (pt_not (pt_val (C8.pe_c c__law_is_integer hr (by decide) (by rfl) (pa_cons (pv 3) pa_nil))))
      (pss_one (ps_ret pe_bl))
      pss_nil)
    (pss_one (ps_set (i := 2) sc_law.nd rfl (.inl rfl) (pe_callB (call_min2 rfl) (by rfl) z_min (by decide +kernel) (pa_cons pe_int (pa_cons (pe_callB (call_max2 rfl) (by rfl) z_max (by decide +kernel) (pa_cons (pe_un un_neg pe_int) (pa_cons (pe_op op_sub (pe_op op_add (pv 3) (pe_op op_mod (pe_op op_fdiv (pe_callTy call_int1 (by rfl) z_int (by decide +kernel) (pa_cons (pe_ix ix_list (pv 1) pe_int (fun _ _ => rfl)) pa_nil)) pe_int) pe_int)) pe_int) pa_nil))) pa_nil)))))))
      pss_nil)
    (pss_cons (ps_set (i := 4) sc_law.nd rfl (.inl rfl) (C8.pe_c c_date_of hr (by decide) (by rfl) (pa_cons (pv 2) pa_nil)))
    (pss_cons (ps_if (PW.pt (pw_or (pt_not (pt_val (C8.pe_c c__law_is_date hr (by decide) (by rfl) (pa_cons (pv 4) pa_nil)))) (pw_or (pt_cmpR op_ne (C8.pe_c c_day_of hr (by decide) (by rfl) (pa_cons (pe_ix ix_tup (pv 4) pe_int (fun _ _ => rfl)) (pa_cons (pe_ix ix_tup (pv 4) pe_int (fun _ _ => rfl)) (pa_cons (pe_ix ix_tup (pv 4) pe_int (fun _ _ => rfl)) pa_nil)))) (pv 2) (nomark _)) (pw_or1 (pt_cmpR op_notTF (C8.pe_c c_is_day hr (by decide) (by rfl) (pa_cons (pv 2) pa_nil)) pe_bl (nomark _))))))
      (pss_one (ps_ret pe_bl))
      pss_nil)
    (pss_cons (ps_if (PW.pt (pw_or (PW.pt (pw_and (pt_cmpR op_lt (pv 2) (C8.pe_gc rfl g_LAST_DAY) (nomark _)) (pw_and1 (pt_cmpR (op_neD (hu64 hr)) (C8.pe_c c_date_of hr (by decide) (by rfl) (pa_cons (pe_op op_add (pv 2) pe_int) pa_nil)) (C8.pe_c c__law_next hr (by decide) (by rfl) (pa_cons (pv 4) pa_nil)) (nomark _))))) (pw_or1 (PW.pt (pw_and (pt_cmpR op_eq (pv 2) (C8.pe_gc rfl g_LAST_DAY) (nomark _)) (pw_and1 (pt_cmpR (op_neD (hu64 hr)) (pv 4) (pe_tup (pa_cons pe_int (pa_cons pe_int (pa_cons pe_int pa_nil)))) (nomark _))))))))
      (pss_one (ps_ret pe_bl))
      pss_nil)
    (pss_cons (ps_set (i := 5) sc_law.nd rfl (.inl rfl) (pe_op op_sub (pe_op op_mod (pe_callTy call_int1 (by rfl) z_int (by decide +kernel) (pa_cons (pe_ix ix_list (pv 1) pe_int (fun _ _ => rfl)) pa_nil)) pe_int) pe_int))
    (pss_cons (ps_set (i := 6) sc_law.nd rfl (.inl rfl) (pe_op op_sub (pe_op op_mod (pe_op op_fdiv (pe_callTy call_int1 (by rfl) z_int (by decide +kernel) (pa_cons (pe_ix ix_list (pv 1) pe_int (fun _ _ => rfl)) pa_nil)) pe_int) pe_int) pe_int))
    (pss_cons (ps_set (i := 7) sc_law.nd rfl (.inl rfl) (pe_op op_sub (pe_op op_mod (pe_callTy call_int1 (by rfl) z_int (by decide +kernel) (pa_cons (pe_ix ix_list (pv 1) pe_int (fun _ _ => rfl)) pa_nil)) pe_int) pe_int))
    (pss_cons (ps_set (i := 8) sc_law.nd rfl (.inl rfl) (C8.pe_c c_day_of hr (by decide) (by rfl) (pa_cons (pv 5) (pa_cons (pv 6) (pa_cons (pv 7) pa_nil)))))
    (Evl.pss_cut (ps_if (pt_val (C8.pe_c c__law_is_date hr (by decide) (by rfl) (pa_cons (pe_tup (pa_cons (pv 5) (pa_cons (pv 6) (pa_cons (pv 7) pa_nil)))) pa_nil)))
      (pss_cons (ps_if (PW.pt (pw_or (pt_not (pt_val (C8.pe_c c__law_is_integer hr (by decide) (by rfl) (pa_cons (pv 8) pa_nil)))) (pw_or1 (pt_cmpR (op_neD (hu64 hr)) (C8.pe_c c_date_of hr (by decide) (by rfl) (pa_cons (pv 8) pa_nil)) (pe_tup (pa_cons (pv 5) (pa_cons (pv 6) (pa_cons (pv 7) pa_nil)))) (nomark _)))))
      (pss_one (ps_ret pe_bl))
      pss_nil)
    (pss_one (ps_if (pt_cmpR op_ne (C8.pe_c c_month_length hr (by decide) (by rfl) (pa_cons (pv 5) (pa_cons (pv 6) pa_nil))) (C8.pe_c c__law_length hr (by decide) (by rfl) (pa_cons (pv 5) (pa_cons (pv 6) pa_nil))) (nomark _))
      (pss_one (ps_ret pe_bl))
      pss_nil)))
      (pss_one (ps_if (pt_cmpR op_notN (pv 8) pe_non (nomark _))
      (pss_one (ps_ret pe_bl))
      pss_nil)))
    (pss_cons (ps_if (PW.pt (pw_or (pt_cmpR op_notTF (C8.pe_c c_is_day hr (by decide) (by rfl) (pa_cons (pe_op op_add pe_int (pe_op op_mod (pe_callTy call_int1 (by rfl) z_int (by decide +kernel) (pa_cons (pe_ix ix_list (pv 1) pe_int (fun _ _ => rfl)) pa_nil)) pe_int)) pa_nil)) pe_bl (nomark _)) (pw_or1 (pt_cmpR op_notTF (C8.pe_c c_is_day hr (by decide) (by rfl) (pa_cons (pe_op op_sub (pe_un un_neg pe_int) (pe_op op_mod (pe_callTy call_int1 (by rfl) z_int (by decide +kernel) (pa_cons (pe_ix ix_list (pv 1) pe_int (fun _ _ => rfl)) pa_nil)) pe_int)) pa_nil)) pe_bl (nomark _)))))
      (pss_one (ps_ret pe_bl))
      pss_nil)
    (pss_one (ps_ret (pe_and (pe_cmpR op_isTF (C8.pe_c c_is_day hr (by decide) (by rfl) (pa_cons pe_bl pa_nil)) pe_bl (nomark _)) (pe_and (pe_cmpR op_isTF (C8.pe_c c_is_day hr (by decide) (by rfl) (pa_cons pe_non pa_nil)) pe_bl (nomark _)) (pe_one (pe_cmpR op_isTF (C8.pe_c c_is_day hr (by decide) (by rfl) (pa_cons pe_str pa_nil)) pe_bl (nomark _)))))))))))))))))))), ?_⟩
  obtain ⟨a, ns, rfl, hS, h63, q⟩ := h
  refine q_asgL (xs := (lawN ns 4).map V.int) (el_call (ea_cons (ev_var rfl) (ea_cons ev_c ea_nil)) fun H1 e Q q E => ⟨a, ns, 4, rfl, ex_l e hS, h63, by decide, q⟩) fun p1 H1 hp1 e1 h1 => ?_
  have i0 := lawN_at (ns := ns) (c := 4) (i := 0) (by decide)
  have i1 := lawN_at (ns := ns) (c := 4) (i := 1) (by decide)
  have i2 := lawN_at (ns := ns) (c := 4) (i := 2) (by decide)
  have i3 := lawN_at (ns := ns) (c := 4) (i := 3) (by decide)
  generalize cellN ns 0 = n0 at i0
  generalize cellN ns 1 = n1 at i1
  generalize cellN ns 2 = n2 at i2
  generalize cellN ns 3 = n3 at i3
  have g0 : ∀ {σ : L2.St} {H' : Hp}, σ[1]? = some (some (V.ref p1)) → Ex H1 H' → Ev (tOp (rIxL K) (tVar 1) (tC (.int 0))) σ H' (.int n0) := fun hσ e => ev_op (ev_var hσ) ev_c (rv_ixL (sq_of (e _ _ h1)) i0)
  have g1 : ∀ {σ : L2.St} {H' : Hp}, σ[1]? = some (some (V.ref p1)) → Ex H1 H' → Ev (tOp (rIxL K) (tVar 1) (tC (.int 1))) σ H' (.int n1) := fun hσ e => ev_op (ev_var hσ) ev_c (rv_ixL (sq_of (e _ _ h1)) i1)
  have g2 : ∀ {σ : L2.St} {H' : Hp}, σ[1]? = some (some (V.ref p1)) → Ex H1 H' → Ev (tOp (rIxL K) (tVar 1) (tC (.int 2))) σ H' (.int n2) := fun hσ e => ev_op (ev_var hσ) ev_c (rv_ixL (sq_of (e _ _ h1)) i2)
  have g3 : ∀ {σ : L2.St} {H' : Hp}, σ[1]? = some (some (V.ref p1)) → Ex H1 H' → Ev (tOp (rIxL K) (tVar 1) (tC (.int 3))) σ H' (.int n3) := fun hσ e => ev_op (ev_var hσ) ev_c (rv_ixL (sq_of (e _ _ h1)) i3)
  have d0 : dt 0 = (1970, 1, 1) := dt_eq (by decide +kernel) (by decide +kernel)
  have d1 : dt (-719162) = (1, 1, 1) := dt_eq (by decide +kernel) (by decide +kernel)
  refine q_when (b := (!decide (V.int (-719162) = V.int (-719162))) || ((!decide (V.int 2932896 = V.int 2932896)) || ((!decide (dt 0 = (1970, 1, 1))) || (!decide (dt (-719162) = (1, 1, 1)))))) ?_ (fun hb => ?_) fun _ H2 e2 => ?_
  · refine et_or (et_test (ev_op ev_c (ev_un ev_c ru_neg) (rv_ne rfl))) fun _ => et_or (et_test (ev_op ev_c ev_c (rv_ne rfl))) fun _ => et_or (et_test (neU (ec_date ev_c (by decide)) (tri3 ev_c ev_c ev_c))) fun _ => et_test (neU (ec_date ev_c (by decide)) (tri3 ev_c ev_c ev_c))
  · rw [d0, d1] at hb
    exact absurd hb (by decide)
  refine q_asg (v := .int (n0 % 3652059 - 719162)) (ev_op (x := .int (n0 % 3652059)) (ev_op (ev_int (g0 rfl e2)) ev_c (rv_I (by decide))) ev_c rv_I0) fun H3 e3 => ?_
  refine q_cut (M := fun σ H' => ∃ (y3 : Option V) (d : Int), σ = [some (.ref a), some (.ref p1), some (.int d), y3, none, none, none, none, none] ∧ (-719162 ≤ d ∧ d ≤ 2932896) ∧ Ex H1 H') ?_ ?_
  · refine s_when (b := decide (V.int (n1 % 3) = V.int 0)) (et_test (ev_op (ev_op (ev_int (g1 rfl (e2.trans e3))) ev_c (rv_I (by decide))) ev_c (rv_eq rfl))) (fun _ H4 e4 => ?_) fun _ H4 e4 => ⟨none, _, rfl, by omega, (e2.trans e3).trans e4⟩
    have x4 := (e2.trans e3).trans e4
    have hl : ∃ m : Int, atI ([.int 1, .int 2, .int 3, .int 12, .int 2, .int 7] : List V) (n1 / 3 % 6) = some (.int m) ∧ 1 ≤ m ∧ m ≤ 12 := by
      have h : n1 / 3 % 6 = 0 ∨ n1 / 3 % 6 = 1 ∨ n1 / 3 % 6 = 2 ∨ n1 / 3 % 6 = 3 ∨ n1 / 3 % 6 = 4 ∨ n1 / 3 % 6 = 5 := by omega
      rcases h with e | e | e | e | e | e <;> rw [e]
      · exact ⟨1, rfl, by decide, by decide⟩
      · exact ⟨2, rfl, by decide, by decide⟩
      · exact ⟨3, rfl, by decide, by decide⟩
      · exact ⟨12, rfl, by decide, by decide⟩
      · exact ⟨2, rfl, by decide, by decide⟩
      · exact ⟨7, rfl, by decide, by decide⟩
    obtain ⟨m, hm, m1, m2⟩ := hl
    have hD : isD (1 + n0 % 9999) m 1 := ⟨by omega, ⟨m1, m2⟩, by omega, by have := mlen_in (y := 1 + n0 % 9999) ⟨m1, m2⟩; omega⟩
    have ev : dayV (1 + n0 % 9999) m 1 = .int (dayN (1 + n0 % 9999) m 1) := by unfold dayV; rw [if_pos hD]
    refine q_asg (v := .int (dayN (1 + n0 % 9999) m 1)) ?_ fun H5 e5 => ?_
    · rw [← ev]
      refine ec_day (ev_op ev_c (ev_op (ev_int (g0 rfl x4)) ev_c (rv_I (by decide))) rv_I0) ?_ ev_c
      exact ev_opL1 (el_lst (ea_cons ev_c (ea_cons ev_c (ea_cons ev_c (ea_cons ev_c (ea_cons ev_c (ea_cons ev_c ea_nil)))))) (by show 6 ≤ 100000; decide)) (fun H6 e6 => ev_op (ev_op (ev_int (g1 rfl (x4.trans e6))) ev_c (rv_I ⟨by decide, by decide⟩)) ev_c (rv_I (by decide))) fun p H6 hp e6 => rv_ixL (sq_of hp) hm
    have x5 := x4.trans e5
    refine q_when (b := !true) (et_not (et_B (ec_isint (ev_var rfl) (.int _)))) (fun hb => nomatch hb) fun _ H6 e6 => ?_
    have x6 := x5.trans e6
    refine s_asg (ev_min2 ev_c (ev_max2 (ev_un ev_c ru_neg) (ev_op (ev_op (ev_var rfl) (ev_op (ev_op (ev_int (g1 rfl x6)) ev_c (rv_I ⟨by decide, by decide⟩)) ev_c (rv_I (by decide))) rv_I0) ev_c rv_I0))) fun H7 e7 => ⟨_, _, rfl, ?_, x6.trans e7⟩
    split <;> split <;> omega
  · rintro σ' H' ⟨y3, d, rfl, hd, x4⟩
    obtain ⟨k1, k2⟩ := dt_ok hd
    refine q_asgU (xs := tri (dt d)) (ec_date (ev_var rfl) hd) fun p2 H5 hp2 e5 h5 => ?_
    have at0 : atI (tri (dt d)) 0 = some (.int (dt d).1) := atI_nat (j := 0) rfl
    have at1 : atI (tri (dt d)) 1 = some (.int (dt d).2.1) := atI_nat (j := 1) rfl
    have at2 : atI (tri (dt d)) 2 = some (.int (dt d).2.2) := atI_nat (j := 2) rfl
    have ed : dayV (dt d).1 (dt d).2.1 (dt d).2.2 = .int d := by unfold dayV; rw [if_pos k1, k2]
    refine q_when (b := (!decide (isD (dt d).1 (dt d).2.1 (dt d).2.2)) || ((!decide (V.int d = V.int d)) || (!decide (V.bl (isDay (.int d)) = V.bl true)))) ?_ (fun hb => ?_) fun _ H6 e6 => ?_
    · refine et_or (et_not (et_B (ec_isdate (ev_var rfl) h5))) fun _ => et_or (et_test (ev_op (ev_is (ec_day (ev_op (ev_var rfl) ev_c (rv_ixT (st_of h5) at0)) (ev_op (ev_var rfl) ev_c (rv_ixT (st_of h5) at1)) (ev_op (ev_var rfl) ev_c (rv_ixT (st_of h5) at2))) ed) (ev_var rfl) (rv_ne rfl))) fun _ => et_test (ev_op (ec_isday (ev_var rfl) (.int d)) ev_c rv_notT)
    · rw [decide_eq_true k1, decide_eq_true rfl, show isDay (.int d) = true by show (decide _ && decide _) = true; rw [decide_eq_true hd.1, decide_eq_true hd.2]; rfl] at hb
      exact absurd hb (by decide)
    have h6 := e6 _ _ h5
    refine q_when (b := (decide (d < 2932896) && !decide (dt (d + 1) = nextI (dt d).1 (dt d).2.1 (dt d).2.2)) || (decide (V.int d = V.int 2932896) && !decide (dt d = (9999, 12, 31)))) ?_ (fun hb => ?_) fun _ H7 e7 => ?_
    · exact et_or (et_and (et_test (ev_op (ev_var rfl) ev_c rv_I0)) fun hb => et_test (neU (ec_date (ev_op (ev_var rfl) ev_c rv_I0) (by have := of_decide_eq_true hb; omega)) (ec_next (ev_var rfl) (st_of h6) k1.2.1))) fun _ => et_and (et_test (ev_op (ev_var rfl) ev_c (rv_eq rfl))) fun _ => et_test (neR (ev_var rfl) (st_of h6) (tri3 ev_c ev_c ev_c))
    · exfalso
      by_cases c1 : d < 2932896
      · have nk := next_ok k1 (by rw [k2]; exact c1)
        rw [k2] at nk
        rw [dt_eq nk.1 nk.2, decide_eq_true (show nextI (dt d).1 (dt d).2.1 (dt d).2.2 = _ from rfl), decide_eq_false (show ¬ V.int d = V.int 2932896 from fun z => by have := V.int.inj z; omega)] at hb
        rw [decide_eq_true c1] at hb
        exact absurd hb (by simp)
      · have e : d = 2932896 := by omega
        rw [decide_eq_false c1, e, dt_eq (day := 2932896) (y := 9999) (m := 12) (d := 31) (by decide +kernel) (by decide +kernel)] at hb
        exact absurd hb (by simp)
    have x7 := ((x4.trans e5).trans e6).trans e7
    refine q_asg (v := .int (n2 % 10007 - 3)) (ev_op (ev_op (ev_int (g2 rfl x7)) ev_c (rv_I (by decide))) ev_c rv_I0) fun H8 e8 => ?_
    refine q_asg (v := .int (n2 / 10007 % 16 - 1)) (ev_op (ev_op (ev_op (ev_int (g2 rfl (x7.trans e8))) ev_c (rv_I ⟨by decide, by decide⟩)) ev_c (rv_I (by decide))) ev_c rv_I0) fun H9 e9 => ?_
    refine q_asg (v := .int (n3 % 37 - 2)) (ev_op (ev_op (ev_int (g3 rfl ((x7.trans e8).trans e9))) ev_c (rv_I (by decide))) ev_c rv_I0) fun Ha ea => ?_
    generalize n2 % 10007 - 3 = y
    generalize n2 / 10007 % 16 - 1 = m
    generalize n3 % 37 - 2 = n
    have xa := ((x7.trans e8).trans e9).trans ea
    refine q_asg (ec_day (ev_var rfl) (ev_var rfl) (ev_var rfl)) fun Hb eb => ?_
    have pl : Pl (dayV y m n) := by unfold dayV; split <;> constructor
    refine q_cut (M := fun σ' H' => σ' = [some (.ref a), some (.ref p1), some (.int d), y3, some (.ref p2), some (.int y), some (.int m), some (.int n), some (dayV y m n)] ∧ Ex H1 H') ?_ ?_
    · refine s_if (b := decide (isD y m n)) (et_B (ec_isdateN (t := (y, m, n)) (tri3 (ev_var rfl) (ev_var rfl) (ev_var rfl)))) (fun hb Hc ec => ?_) fun hb Hc ec => ?_
      · have hD := of_decide_eq_true hb
        have e : dayV y m n = .int (dayN y m n) := by unfold dayV; rw [if_pos hD]
        rw [e]
        refine q_when (b := (!true) || (!decide (dt (dayN y m n) = (y, m, n)))) (et_or (et_not (et_B (ec_isint (ev_var rfl) (.int _)))) fun _ => et_test (neU (ec_date (ev_var rfl) (day_in hD)) (tri3 (ev_var rfl) (ev_var rfl) (ev_var rfl)))) (fun hb => ?_) fun _ Hd ed => ?_
        · rw [dt_of hD, decide_eq_true rfl] at hb
          exact absurd hb (by decide)
        refine s_when (b := !decide (V.int (mlen y m) = V.int (mlen y m))) (et_test (ev_op (ec_mlen (ev_var rfl) (ev_var rfl) hD.2.1) (ec_llen (ev_var rfl) (ev_var rfl) hD.2.1) (rv_ne rfl))) (fun hb => ?_) fun _ He ee => ⟨rfl, (((xa.trans eb).trans ec).trans ed).trans ee⟩
        rw [decide_eq_true rfl] at hb
        exact absurd hb (by decide)
      · have e : dayV y m n = .non := by unfold dayV; rw [if_neg (of_decide_eq_false hb)]
        rw [e]
        refine s_when (b := !decide (V.non = V.non)) (et_test (ev_op (ev_var rfl) ev_c rv_notN)) (fun hb => ?_) fun _ He ee => ⟨rfl, ((xa.trans eb).trans ec).trans ee⟩
        exact absurd hb (by decide)
    · rintro σ' H' ⟨rfl, xc⟩
      refine q_when (b := (!decide (V.bl (isDay (.int (2932897 + n3 % 5))) = V.bl false)) || (!decide (V.bl (isDay (.int (-719163 - n3 % 5))) = V.bl false))) (et_or (et_test (ev_op (ec_isday (ev_op ev_c (ev_op (ev_int (g3 rfl xc)) ev_c (rv_I (by decide))) rv_I0) (.int _)) ev_c rv_notT)) fun _ => et_test (ev_op (ec_isday (ev_op (ev_un ev_c ru_neg) (ev_op (ev_int (g3 rfl xc)) ev_c (rv_I (by decide))) rv_I0) (.int _)) ev_c rv_notT)) (fun hb => ?_) fun _ Hd ed => ?_
      · rw [show isDay (.int (2932897 + n3 % 5)) = false by show (decide _ && decide _) = false; rw [decide_eq_false (show ¬ 2932897 + n3 % 5 ≤ 2932896 by omega), Bool.and_false], show isDay (.int (-719163 - n3 % 5)) = false by show (decide _ && decide _) = false; rw [decide_eq_false (show ¬ -719162 ≤ -719163 - n3 % 5 by omega), Bool.false_and]] at hb
        exact absurd hb (by decide)
      refine s_ret (v := .bl true) ?_ fun He _ => q He
      exact ev_is (ev_andV (ev_op (ec_isday ev_c (.bl true)) ev_c rv_isT) fun _ => ev_andV (ev_op (ec_isday ev_c .non) ev_c rv_isT) fun _ => ev_op (ec_isday ev_c (.str _)) ev_c rv_isT) (by decide)
end
theorem all_mk {P : Program} {w : World} {K : PySem.W.Frag} {h : Heap} {mg : Str → Option Value} {fa : Addr} (X : K.In h) (G : h.Ns mainGlobals mg) (hfa : mg "law" = some (.ref fa))
    {f0 : Addr} {od0 an0 : Option Addr} {sl0 : Array (Option Value)} {oc0 kV0 dc0 pm0 cd0 ct0 : Value} (a0 : PySem.W.nsIn K mainGlobals "is_integer" = some (some (.ref f0))) (l0 : K.lookup f0 = some ⟨oc0, od0, .func (PySem.W.fnOf "is_integer" "is_integer" (C8.fnArgs s_is_integer) (C8.fnBody s_is_integer) (C8.fnScope s_is_integer) .none kV0 dc0 pm0 an0 cd0 ct0), sl0⟩) (b0 : PySem.W.codeIn K cd0 "is_integer" = true) (k0 : PySem.W.keepIn K (.ref f0) = true)
    {f1 : Addr} {od1 an1 : Option Addr} {sl1 : Array (Option Value)} {oc1 kV1 dc1 pm1 cd1 ct1 : Value} (a1 : PySem.W.nsIn K mainGlobals "is_day" = some (some (.ref f1))) (l1 : K.lookup f1 = some ⟨oc1, od1, .func (PySem.W.fnOf "is_day" "is_day" (C8.fnArgs s_is_day) (C8.fnBody s_is_day) (C8.fnScope s_is_day) .none kV1 dc1 pm1 an1 cd1 ct1), sl1⟩) (b1 : PySem.W.codeIn K cd1 "is_day" = true) (k1 : PySem.W.keepIn K (.ref f1) = true)
    {f2 : Addr} {od2 an2 : Option Addr} {sl2 : Array (Option Value)} {oc2 kV2 dc2 pm2 cd2 ct2 : Value} (a2 : PySem.W.nsIn K mainGlobals "_is_leap" = some (some (.ref f2))) (l2 : K.lookup f2 = some ⟨oc2, od2, .func (PySem.W.fnOf "_is_leap" "_is_leap" (C8.fnArgs s__is_leap) (C8.fnBody s__is_leap) (C8.fnScope s__is_leap) .none kV2 dc2 pm2 an2 cd2 ct2), sl2⟩) (b2 : PySem.W.codeIn K cd2 "_is_leap" = true) (k2 : PySem.W.keepIn K (.ref f2) = true)
    {f3 : Addr} {od3 an3 : Option Addr} {sl3 : Array (Option Value)} {oc3 kV3 dc3 pm3 cd3 ct3 : Value} (a3 : PySem.W.nsIn K mainGlobals "month_length" = some (some (.ref f3))) (l3 : K.lookup f3 = some ⟨oc3, od3, .func (PySem.W.fnOf "month_length" "month_length" (C8.fnArgs s_month_length) (C8.fnBody s_month_length) (C8.fnScope s_month_length) .none kV3 dc3 pm3 an3 cd3 ct3), sl3⟩) (b3 : PySem.W.codeIn K cd3 "month_length" = true) (k3 : PySem.W.keepIn K (.ref f3) = true)
    {f4 : Addr} {od4 an4 : Option Addr} {sl4 : Array (Option Value)} {oc4 kV4 dc4 pm4 cd4 ct4 : Value} (a4 : PySem.W.nsIn K mainGlobals "day_of" = some (some (.ref f4))) (l4 : K.lookup f4 = some ⟨oc4, od4, .func (PySem.W.fnOf "day_of" "day_of" (C8.fnArgs s_day_of) (C8.fnBody s_day_of) (C8.fnScope s_day_of) .none kV4 dc4 pm4 an4 cd4 ct4), sl4⟩) (b4 : PySem.W.codeIn K cd4 "day_of" = true) (k4 : PySem.W.keepIn K (.ref f4) = true)
    {f5 : Addr} {od5 an5 : Option Addr} {sl5 : Array (Option Value)} {oc5 kV5 dc5 pm5 cd5 ct5 : Value} (a5 : PySem.W.nsIn K mainGlobals "date_of" = some (some (.ref f5))) (l5 : K.lookup f5 = some ⟨oc5, od5, .func (PySem.W.fnOf "date_of" "date_of" (C8.fnArgs s_date_of) (C8.fnBody s_date_of) (C8.fnScope s_date_of) .none kV5 dc5 pm5 an5 cd5 ct5), sl5⟩) (b5 : PySem.W.codeIn K cd5 "date_of" = true) (k5 : PySem.W.keepIn K (.ref f5) = true)
    {f6 : Addr} {od6 an6 : Option Addr} {sl6 : Array (Option Value)} {oc6 kV6 dc6 pm6 cd6 ct6 : Value} (a6 : PySem.W.nsIn K mainGlobals "_law_numbers" = some (some (.ref f6))) (l6 : K.lookup f6 = some ⟨oc6, od6, .func (PySem.W.fnOf "_law_numbers" "_law_numbers" (C8.fnArgs s__law_numbers) (C8.fnBody s__law_numbers) (C8.fnScope s__law_numbers) .none kV6 dc6 pm6 an6 cd6 ct6), sl6⟩) (b6 : PySem.W.codeIn K cd6 "_law_numbers" = true) (k6 : PySem.W.keepIn K (.ref f6) = true)
    {f7 : Addr} {od7 an7 : Option Addr} {sl7 : Array (Option Value)} {oc7 kV7 dc7 pm7 cd7 ct7 : Value} (a7 : PySem.W.nsIn K mainGlobals "_law_is_integer" = some (some (.ref f7))) (l7 : K.lookup f7 = some ⟨oc7, od7, .func (PySem.W.fnOf "_law_is_integer" "_law_is_integer" (C8.fnArgs s__law_is_integer) (C8.fnBody s__law_is_integer) (C8.fnScope s__law_is_integer) .none kV7 dc7 pm7 an7 cd7 ct7), sl7⟩) (b7 : PySem.W.codeIn K cd7 "_law_is_integer" = true) (k7 : PySem.W.keepIn K (.ref f7) = true)
    {f8 : Addr} {od8 an8 : Option Addr} {sl8 : Array (Option Value)} {oc8 kV8 dc8 pm8 cd8 ct8 : Value} (a8 : PySem.W.nsIn K mainGlobals "_law_length" = some (some (.ref f8))) (l8 : K.lookup f8 = some ⟨oc8, od8, .func (PySem.W.fnOf "_law_length" "_law_length" (C8.fnArgs s__law_length) (C8.fnBody s__law_length) (C8.fnScope s__law_length) .none kV8 dc8 pm8 an8 cd8 ct8), sl8⟩) (b8 : PySem.W.codeIn K cd8 "_law_length" = true) (k8 : PySem.W.keepIn K (.ref f8) = true)
    {f9 : Addr} {od9 an9 : Option Addr} {sl9 : Array (Option Value)} {oc9 kV9 dc9 pm9 cd9 ct9 : Value} (a9 : PySem.W.nsIn K mainGlobals "_law_next" = some (some (.ref f9))) (l9 : K.lookup f9 = some ⟨oc9, od9, .func (PySem.W.fnOf "_law_next" "_law_next" (C8.fnArgs s__law_next) (C8.fnBody s__law_next) (C8.fnScope s__law_next) .none kV9 dc9 pm9 an9 cd9 ct9), sl9⟩) (b9 : PySem.W.codeIn K cd9 "_law_next" = true) (k9 : PySem.W.keepIn K (.ref f9) = true)
    {f10 : Addr} {od10 an10 : Option Addr} {sl10 : Array (Option Value)} {oc10 kV10 dc10 pm10 cd10 ct10 : Value} (a10 : PySem.W.nsIn K mainGlobals "_law_is_date" = some (some (.ref f10))) (l10 : K.lookup f10 = some ⟨oc10, od10, .func (PySem.W.fnOf "_law_is_date" "_law_is_date" (C8.fnArgs s__law_is_date) (C8.fnBody s__law_is_date) (C8.fnScope s__law_is_date) .none kV10 dc10 pm10 an10 cd10 ct10), sl10⟩) (b10 : PySem.W.codeIn K cd10 "_law_is_date" = true) (k10 : PySem.W.keepIn K (.ref f10) = true)
    {f11 : Addr} {od11 an11 : Option Addr} {sl11 : Array (Option Value)} {oc11 kV11 dc11 pm11 cd11 ct11 : Value} (a11 : PySem.W.nsIn K mainGlobals "law" = some (some (.ref f11))) (l11 : K.lookup f11 = some ⟨oc11, od11, .func (PySem.W.fnOf "law" "law" (C8.fnArgs s_law) (C8.fnBody s_law) (C8.fnScope s_law) .none kV11 dc11 pm11 an11 cd11 ct11), sl11⟩) (b11 : PySem.W.codeIn K cd11 "law" = true) (k11 : PySem.W.keepIn K (.ref f11) = true)
    (z_bool : PySem.W.nsIn K mainGlobals "bool" = some none)
    (z_divmod : PySem.W.nsIn K mainGlobals "divmod" = some none)
    (z_int : PySem.W.nsIn K mainGlobals "int" = some none)
    (z_isinstance : PySem.W.nsIn K mainGlobals "isinstance" = some none)
    (z_len : PySem.W.nsIn K mainGlobals "len" = some none)
    (z_max : PySem.W.nsIn K mainGlobals "max" = some none)
    (z_min : PySem.W.nsIn K mainGlobals "min" = some none)
    (z_range : PySem.W.nsIn K mainGlobals "range" = some none)
    (z_tuple : PySem.W.nsIn K mainGlobals "tuple" = some none)
    {t_FIRST_DAY : Tok} (q_FIRST_DAY : PySem.W.nsIn K mainGlobals "FIRST_DAY" = some (some (.int (-719162) t_FIRST_DAY)))
    {t_LAST_DAY : Tok} (q_LAST_DAY : PySem.W.nsIn K mainGlobals "LAST_DAY" = some (some (.int (2932896) t_LAST_DAY)))
    {t__DAYS_OF_100_YEARS : Tok} (q__DAYS_OF_100_YEARS : PySem.W.nsIn K mainGlobals "_DAYS_OF_100_YEARS" = some (some (.int (36524) t__DAYS_OF_100_YEARS)))
    {t__DAYS_OF_400_YEARS : Tok} (q__DAYS_OF_400_YEARS : PySem.W.nsIn K mainGlobals "_DAYS_OF_400_YEARS" = some (some (.int (146097) t__DAYS_OF_400_YEARS)))
    {t__DAYS_OF_4_YEARS : Tok} (q__DAYS_OF_4_YEARS : PySem.W.nsIn K mainGlobals "_DAYS_OF_4_YEARS" = some (some (.int (1461) t__DAYS_OF_4_YEARS)))
    {t__DAYS_OF_YEAR : Tok} (q__DAYS_OF_YEAR : PySem.W.nsIn K mainGlobals "_DAYS_OF_YEAR" = some (some (.int (365) t__DAYS_OF_YEAR)))
    {t__LAST_YEAR : Tok} (q__LAST_YEAR : PySem.W.nsIn K mainGlobals "_LAST_YEAR" = some (some (.int (9999) t__LAST_YEAR)))
    {p__MONTHS : Addr} (q__MONTHS : PySem.W.nsIn K mainGlobals "_MONTHS" = some (some (.ref p__MONTHS))) (r__MONTHS : ∀ H : Hp, SqT K H p__MONTHS (monthsL.map V.int))
    : ∃ fd : FuncData, (∀ (s : Shared) (v : Value), BindsTo s fd ⟨[v], []⟩ [("script", v)]) ∧ ∀ base : Heap, K.In base → base.Ns mainGlobals mg → FnOk P w K mg base C8.CX0 4 fa fd ["script"] (sp_law K) := by
  have D_is_integer : Dn K mg "is_integer" s_is_integer ["value"] := dn_mk l0 b0 k0 (PySem.W.mg_of X G a0) (fun _ _ _ _ _ _ us hl => match us, hl with | [_], _ => rfl)
  have D_is_day : Dn K mg "is_day" s_is_day ["value"] := dn_mk l1 b1 k1 (PySem.W.mg_of X G a1) (fun _ _ _ _ _ _ us hl => match us, hl with | [_], _ => rfl)
  have D__is_leap : Dn K mg "_is_leap" s__is_leap ["year"] := dn_mk l2 b2 k2 (PySem.W.mg_of X G a2) (fun _ _ _ _ _ _ us hl => match us, hl with | [_], _ => rfl)
  have D_month_length : Dn K mg "month_length" s_month_length ["year", "month"] := dn_mk l3 b3 k3 (PySem.W.mg_of X G a3) (fun _ _ _ _ _ _ us hl => match us, hl with | [_, _], _ => rfl)
  have D_day_of : Dn K mg "day_of" s_day_of ["year", "month", "date"] := dn_mk l4 b4 k4 (PySem.W.mg_of X G a4) (fun _ _ _ _ _ _ us hl => match us, hl with | [_, _, _], _ => rfl)
  have D_date_of : Dn K mg "date_of" s_date_of ["day"] := dn_mk l5 b5 k5 (PySem.W.mg_of X G a5) (fun _ _ _ _ _ _ us hl => match us, hl with | [_], _ => rfl)
  have D__law_numbers : Dn K mg "_law_numbers" s__law_numbers ["script", "count"] := dn_mk l6 b6 k6 (PySem.W.mg_of X G a6) (fun _ _ _ _ _ _ us hl => match us, hl with | [_, _], _ => rfl)
  have D__law_is_integer : Dn K mg "_law_is_integer" s__law_is_integer ["value"] := dn_mk l7 b7 k7 (PySem.W.mg_of X G a7) (fun _ _ _ _ _ _ us hl => match us, hl with | [_], _ => rfl)
  have D__law_length : Dn K mg "_law_length" s__law_length ["year", "month"] := dn_mk l8 b8 k8 (PySem.W.mg_of X G a8) (fun _ _ _ _ _ _ us hl => match us, hl with | [_, _], _ => rfl)
  have D__law_next : Dn K mg "_law_next" s__law_next ["date"] := dn_mk l9 b9 k9 (PySem.W.mg_of X G a9) (fun _ _ _ _ _ _ us hl => match us, hl with | [_], _ => rfl)
  have D__law_is_date : Dn K mg "_law_is_date" s__law_is_date ["date"] := dn_mk l10 b10 k10 (PySem.W.mg_of X G a10) (fun _ _ _ _ _ _ us hl => match us, hl with | [_], _ => rfl)
  have y_bool : mg "bool" = none := PySem.W.mg_none_of X G z_bool
  have y_divmod : mg "divmod" = none := PySem.W.mg_none_of X G z_divmod
  have y_int : mg "int" = none := PySem.W.mg_none_of X G z_int
  have y_isinstance : mg "isinstance" = none := PySem.W.mg_none_of X G z_isinstance
  have y_len : mg "len" = none := PySem.W.mg_none_of X G z_len
  have y_max : mg "max" = none := PySem.W.mg_none_of X G z_max
  have y_min : mg "min" = none := PySem.W.mg_none_of X G z_min
  have y_range : mg "range" = none := PySem.W.mg_none_of X G z_range
  have y_tuple : mg "tuple" = none := PySem.W.mg_none_of X G z_tuple
  have v_FIRST_DAY : ∃ u, mg "FIRST_DAY" = some u ∧ RelV (.int (-719162)) u := ⟨_, PySem.W.mg_of X G q_FIRST_DAY, ⟨_, rfl⟩⟩
  have v_LAST_DAY : ∃ u, mg "LAST_DAY" = some u ∧ RelV (.int (2932896)) u := ⟨_, PySem.W.mg_of X G q_LAST_DAY, ⟨_, rfl⟩⟩
  have v__DAYS_OF_100_YEARS : ∃ u, mg "_DAYS_OF_100_YEARS" = some u ∧ RelV (.int (36524)) u := ⟨_, PySem.W.mg_of X G q__DAYS_OF_100_YEARS, ⟨_, rfl⟩⟩
  have v__DAYS_OF_400_YEARS : ∃ u, mg "_DAYS_OF_400_YEARS" = some u ∧ RelV (.int (146097)) u := ⟨_, PySem.W.mg_of X G q__DAYS_OF_400_YEARS, ⟨_, rfl⟩⟩
  have v__DAYS_OF_4_YEARS : ∃ u, mg "_DAYS_OF_4_YEARS" = some u ∧ RelV (.int (1461)) u := ⟨_, PySem.W.mg_of X G q__DAYS_OF_4_YEARS, ⟨_, rfl⟩⟩
  have v__DAYS_OF_YEAR : ∃ u, mg "_DAYS_OF_YEAR" = some u ∧ RelV (.int (365)) u := ⟨_, PySem.W.mg_of X G q__DAYS_OF_YEAR, ⟨_, rfl⟩⟩
  have v__LAST_YEAR : ∃ u, mg "_LAST_YEAR" = some u ∧ RelV (.int (9999)) u := ⟨_, PySem.W.mg_of X G q__LAST_YEAR, ⟨_, rfl⟩⟩
  have v__MONTHS : ∃ u, mg "_MONTHS" = some u ∧ RelV (.ref p__MONTHS) u := ⟨_, PySem.W.mg_of X G q__MONTHS, rfl⟩
  have w__MONTHS := r__MONTHS
  have e := hfa.symm.trans (PySem.W.mg_of X G a11)
  cases e
  have D_law := def_mk (x := "law") (st := s_law) l11 b11 k11 hfa
  refine ⟨PySem.W.fnOf "law" "law" (C8.fnArgs s_law) (C8.fnBody s_law) (C8.fnScope s_law) .none kV11 dc11 pm11 an11 cd11 ct11, fun s v => .of_eq rfl, fun base _ _ => ?_⟩
  have c_is_integer := ok_is_integer (P := P) (w := w) (base := base) D_is_integer y_bool y_int y_isinstance
  have c_is_day := ok_is_day (P := P) (w := w) (base := base) D_is_day c_is_integer v_FIRST_DAY v_LAST_DAY
  have c__is_leap := ok__is_leap (P := P) (w := w) (base := base) D__is_leap
  have c_month_length := ok_month_length (P := P) (w := w) (base := base) D_month_length c__is_leap v__MONTHS w__MONTHS
  have c_day_of := ok_day_of (P := P) (w := w) (base := base) D_day_of c_month_length y_range v_FIRST_DAY v__DAYS_OF_YEAR v__LAST_YEAR
  have c_date_of := ok_date_of (P := P) (w := w) (base := base) D_date_of c_month_length y_divmod y_min v_FIRST_DAY v__DAYS_OF_100_YEARS v__DAYS_OF_400_YEARS v__DAYS_OF_4_YEARS v__DAYS_OF_YEAR
  have c__law_numbers := ok__law_numbers (P := P) (w := w) (base := base) D__law_numbers y_int y_len y_range
  have c__law_is_integer := ok__law_is_integer (P := P) (w := w) (base := base) D__law_is_integer y_bool y_int y_isinstance
  have c__law_length := ok__law_length (P := P) (w := w) (base := base) D__law_length y_int
  have c__law_next := ok__law_next (P := P) (w := w) (base := base) D__law_next c__law_length
  have c__law_is_date := ok__law_is_date (P := P) (w := w) (base := base) D__law_is_date c__law_is_integer c__law_length y_isinstance y_len y_tuple
  exact ok_law (P := P) (w := w) (base := base) D_law c__law_is_date c__law_is_integer c__law_length c__law_next c__law_numbers c_date_of c_day_of c_is_day c_month_length y_int y_max y_min v_FIRST_DAY v_LAST_DAY
end My
open PySem PySem.W PyProof.Rows
set_option maxHeartbeats 0 in
theorem PySem.Challenge.cw_stylobate_k03_days_and_dates_holds : PySem.Challenge.rw_stylobate_k03_days_and_dates.Holds := by
  w_on; o_law; k_head; (case hw => w_witness2)
  k_fill
  refine L2.walk_of (l := PySem.Challenge.rw_stylobate_k03_days_and_dates) (n := 63) (k := 4) (x := "script") (CX := fun _ => C8.CX0) (sp := fun w => My.sp_law _) rfl (by decide) rfl ⟨rfl, by decide, by decide⟩ (fun w h Y => PySem.W.kIn_of Y) ?F (fun _ _ a ns hl _ hS => My.sp_law_of hl hS) (fun _ _ _ _ _ h => h)
  case F =>
    intro w mg fa h KX G hmg
    refine' My.all_mk KX G hmg ?a0 ?l0 ?b0 ?k0 ?a1 ?l1 ?b1 ?k1 ?a2 ?l2 ?b2 ?k2 ?a3 ?l3 ?b3 ?k3 ?a4 ?l4 ?b4 ?k4 ?a5 ?l5 ?b5 ?k5 ?a6 ?l6 ?b6 ?k6 ?a7 ?l7 ?b7 ?k7 ?a8 ?l8 ?b8 ?k8 ?a9 ?l9 ?b9 ?k9 ?a10 ?l10 ?b10 ?k10 ?a11 ?l11 ?b11 ?k11 ?z_bool ?z_divmod ?z_int ?z_isinstance ?z_len ?z_max ?z_min ?z_range ?z_tuple ?q_FIRST_DAY ?q_LAST_DAY ?q__DAYS_OF_100_YEARS ?q__DAYS_OF_400_YEARS ?q__DAYS_OF_4_YEARS ?q__DAYS_OF_YEAR ?q__LAST_YEAR ?q__MONTHS ?r__MONTHS
    (case a0 => k_is); (case l0 => k_is); (case b0 => k_is); (case k0 => k_is); (case a1 => k_is); (case l1 => k_is); (case b1 => k_is); (case k1 => k_is); (case a2 => k_is); (case l2 => k_is); (case b2 => k_is); (case k2 => k_is); (case a3 => k_is); (case l3 => k_is); (case b3 => k_is); (case k3 => k_is); (case a4 => k_is); (case l4 => k_is); (case b4 => k_is); (case k4 => k_is); (case a5 => k_is); (case l5 => k_is); (case b5 => k_is); (case k5 => k_is); (case a6 => k_is); (case l6 => k_is); (case b6 => k_is); (case k6 => k_is); (case a7 => k_is); (case l7 => k_is); (case b7 => k_is); (case k7 => k_is); (case a8 => k_is); (case l8 => k_is); (case b8 => k_is); (case k8 => k_is); (case a9 => k_is); (case l9 => k_is); (case b9 => k_is); (case k9 => k_is); (case a10 => k_is); (case l10 => k_is); (case b10 => k_is); (case k10 => k_is); (case a11 => k_is); (case l11 => k_is); (case b11 => k_is); (case k11 => k_is); (case z_bool => k_is); (case z_divmod => k_is); (case z_int => k_is); (case z_isinstance => k_is); (case z_len => k_is); (case z_max => k_is); (case z_min => k_is); (case z_range => k_is); (case z_tuple => k_is); (case q_FIRST_DAY => k_is); (case q_LAST_DAY => k_is); (case q__DAYS_OF_100_YEARS => k_is); (case q__DAYS_OF_400_YEARS => k_is); (case q__DAYS_OF_4_YEARS => k_is); (case q__DAYS_OF_YEAR => k_is); (case q__LAST_YEAR => k_is); (case q__MONTHS => k_is)
    (case r__MONTHS => exact fun _ => .inr ⟨_, _, _, (by k_is), rfl, rfl, by decide, by repeat (first | exact .nil | refine .cons ⟨_, rfl⟩ ?_)⟩)

